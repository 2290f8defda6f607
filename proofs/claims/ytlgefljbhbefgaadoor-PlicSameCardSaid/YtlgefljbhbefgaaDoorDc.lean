/- The document's Best, Calls, bits, may and digit. -/
import Derived.Test.YtlgefljbhbefgaaDoorDb
set_option linter.unusedVariables false
set_option linter.unusedSimpArgs false
namespace Go.Proofs.YtlgefljbhbefgaaDoor
open Go.RowKit
attribute [local go_sem] Oper.semAt_some
theorem q_pr {s : PS} (ok : s.ok) (c : Nat) : ∀ k, s.q c k = true → s.pr k ≤ 7 := fun k _ => by have := ok.pr k; omega
/-- The first source of the highest priority is the best one. -/
theorem best_is {s : PS} (ok : s.ok) (c p i : Nat) (hp : 1 ≤ p) (hi8 : i < 8) (hq : s.q c i = true) (he : s.pr i = p) (hall : ∀ k, 1 ≤ k → k < 8 → s.q c k = true → s.pr k ≤ p) (hlow : ∀ k, 1 ≤ k → k < i → s.q c k = true → s.pr k ≠ p) : s.best c = i := by
  obtain ⟨h1, h2⟩ := best_spec ok c
  have h3 := h2 i hi8 hq
  have hlt := s.best_lt c
  rcases h1 with h0 | ⟨hqb, hpb⟩
  · rw [h0, ok.pr0] at h3; omega
  · have hb0 : s.best c ≠ 0 := fun h => by rw [h, ok.pr0] at hpb; omega
    have h4 := hall _ (by omega) hlt hqb
    by_cases e : s.best c = i
    · exact e
    · by_cases h5 : s.best c < i
      · exact absurd (by omega) (hlow _ (by omega) h5 hqb)
      · have := h3.2 (by omega); omega
theorem best_none {s : PS} (ok : s.ok) (c : Nat) (hall : ∀ k, 1 ≤ k → k < 8 → s.q c k = true → s.pr k ≤ 0) : s.best c = 0 := by
  obtain ⟨h1, _⟩ := best_spec ok c
  have hlt := s.best_lt c
  rcases h1 with h0 | ⟨hqb, hpb⟩
  · exact h0
  · by_cases h : s.best c = 0
    · exact h
    · have := hall _ (by omega) hlt hqb; omega
theorem shl_one : ∀ k : Nat, k < 8 → IntKind.u64.wrap ((2 : Int) ^ k) = ((2 ^ k : Nat) : Int) := by decide +kernel
section
variable {w : World} {D : Nat} {s : PS}
set_option maxHeartbeats 4000000 in
theorem dbest_any (h : Box w D 32 (dpl s.doc)) (ok : s.ok) (c : Nat) (hc : c < 2) : Calls Tryd.prog 29 #[.pointer (some ⟨D, 0, none⟩), .int .i64 c] w fun e w' => e = .returned (.int .i64 (s.best c)) ∧ w = w' := by
  have HB := Lib.hid h
  have HOK := Lib.hid ok
  have hc0 : (0 : Int) ≤ (c : Int) := Int.natCast_nonneg _
  have hc2 : (c : Int) < 2 := by omega
  have HP7 := Lib.hid (q_pr ok c)
  clear h ok
  go_enter Tryd.func29, Tryd.ntmps29
  go_wp2
  go_loop [5] (fun x => ∃ p : Nat, p ≤ 7 ∧ x = .int .i64 p ∧ ∀ k, 1 ≤ k → k < 8 → s.q c k = true → s.pr k ≤ p) (fun x => (intOf x).toNat)
  case atStart => exact ⟨7, by omega, rfl, fun k _ _ hq => HP7.out k hq⟩
  case round =>
    obtain ⟨p, hp, rfl, hall⟩ := hrel
    have HA := Lib.hid hall
    clear hall
    have p0 : (0 : Int) ≤ (p : Int) := Int.natCast_nonneg _
    have p7 : (p : Int) ≤ 7 := by omega
    by_cases hp0 : 0 < p
    · have p1 : (0 : Int) < (p : Int) := by omega
      go_wp2
      go_loop [6] (fun x => ∃ i : Nat, 1 ≤ i ∧ i ≤ 8 ∧ x = .int .i64 i ∧ ∀ k, 1 ≤ k → k < i → s.q c k = true → s.pr k ≠ p) (fun x => 8 - (intOf x).toNat)
      case atStart => exact ⟨1, by omega, by omega, rfl, fun k h1 h2 => by omega⟩
      case round =>
        obtain ⟨i, hi1, hi8, rfl, hlow⟩ := hrel
        have HL := Lib.hid hlow
        clear hlow
        have i0 : (0 : Int) ≤ (i : Int) := Int.natCast_nonneg _
        by_cases hlt : i < 8
        · have i8 : (i : Int) < 8 := by omega
          have c1 : w.cell? ⟨D, 16 + i, none⟩ = some (.bool (s.pe i)) := (HB.out.read _).trans (dpe_at s.doc i hlt)
          have c2 : w.cell? ⟨D, 32 + c * 8 + i, none⟩ = some (.bool (s.on c i)) := (HB.out.read _).trans (den_at s.doc c hc i hlt)
          have c3 : w.cell? ⟨D, i, none⟩ = some (.int .i64 (s.pr i)) := (HB.out.read _).trans (dpr_at s.doc i hlt)
          by_cases hq : s.q c i = true ∧ s.pr i = p
          · have hb := best_is HOK.out c p i (by omega) hlt hq.1 hq.2 HA.out HL.out
            have hq1 : s.pe i = true ∧ s.on c i = true := by
              have := hq.1
              unfold PS.q at this
              simpa using this
            rw [hq1.1] at c1
            rw [hq1.2] at c2
            rw [hq.2] at c3
            have hpp : ((p : Int) == (p : Int)) = true := beq_self_eq_true _
            clear hq hq1
            go_wp2
            go_ret
            exact ⟨rfl, rfl⟩
          · have HLN : Hid (∀ k, 1 ≤ k → k < i + 1 → s.q c k = true → s.pr k ≠ p) := Lib.hid (fun k h1 h2 h3 h4 => by
              by_cases e : k = i
              · subst e; exact hq ⟨h3, h4⟩
              · exact HL.out k h1 (by omega) h3 h4)
            cases hpe : s.pe i
            · rw [hpe] at c1
              clear hq
              go_wp2
              go_round
              case rel => exact ⟨i + 1, by omega, by omega, by go_num, HLN.out⟩
              case measure => simp [intOf]; omega
            · cases hon : s.on c i
              · rw [hpe] at c1
                rw [hon] at c2
                clear hq
                go_wp2
                go_round
                case rel => exact ⟨i + 1, by omega, by omega, by go_num, HLN.out⟩
                case measure => simp [intOf]; omega
              · have hne : ((s.pr i : Int) == (p : Int)) = false := beq_eq_false_iff_ne.2 (fun e => hq ⟨by unfold PS.q; rw [hpe, hon]; rfl, by omega⟩)
                rw [hpe] at c1
                rw [hon] at c2
                clear hq
                go_wp2
                go_round
                case rel => exact ⟨i + 1, by omega, by omega, by go_num, HLN.out⟩
                case measure => simp [intOf]; omega
        · obtain rfl : i = 8 := by omega
          have HLN : Hid (∀ k, 1 ≤ k → k < 8 → s.q c k = true → s.pr k ≤ p - 1) := Lib.hid (fun k h1 h2 h3 => by
            have := HA.out k h1 h2 h3
            have := HL.out k h1 h2 h3
            omega)
          go_wp2
          go_round
          case rel => exact ⟨p - 1, by omega, by go_num, HLN.out⟩
          case measure => simp [intOf]; omega
    · obtain rfl : p = 0 := by omega
      have hb := best_none HOK.out c HA.out
      go_wp2
      go_ret
      exact ⟨rfl, rfl⟩
theorem dcalls_no (D : Nat) (c : Int) (h0 : c ≠ 0) (h1 : c ≠ 1) (w : World) : Calls Tryd.prog 13 #[.pointer (some ⟨D, 0, none⟩), .int .i64 c] w fun e w' => e = .returned (.bool false) ∧ w = w' := by
  have e0 : (c != 0) = true := bne_iff_ne.2 h0
  have e1 : (c != 1) = true := bne_iff_ne.2 h1
  clear h0 h1
  go_enter Tryd.func13, Tryd.ntmps13
  go_wp2
  go_ret
  exact ⟨rfl, rfl⟩
theorem dcalls_any (h : Box w D 32 (dpl s.doc)) (ok : s.ok) (c : Nat) (hc : c < 2) : Calls Tryd.prog 13 #[.pointer (some ⟨D, 0, none⟩), .int .i64 c] w fun e w' => e = .returned (.bool (s.calls c)) ∧ ∃ j, w' = w.drewN j := by
  have HD := Lib.hid (dbest_any h ok c hc)
  have hb8 := s.best_lt c
  have c0 : (0 : Int) ≤ (c : Int) := Int.natCast_nonneg _
  have c2 : (c : Int) < 2 := by omega
  have e0 : ((c : Int) != 0 && (c : Int) != 1) = false := by
    rcases c with _ | _ | c
    · rfl
    · rfl
    · omega
  have hcs : s.calls c = decide (0 < s.best c ∧ s.th c < s.pr (s.best c)) := by
    unfold PS.calls
    by_cases hz : s.best c = 0
    · rw [hz, ok.pr0]; simp
    · simp [show 0 < s.best c by omega]
  rw [hcs]
  have d1 : ∀ j, (w.drewN j).cell? ⟨D, s.best c, none⟩ = some (.int .i64 (s.pr (s.best c))) := fun j => ((h.drawn j).read _).trans (dpr_at s.doc _ hb8)
  have d2 : ∀ j, (w.drewN j).cell? ⟨D, 48 + c, none⟩ = some (.int .i64 (s.th c)) := fun j => ((h.drawn j).read _).trans (dth_at s.doc _ hc)
  have b0 : (0 : Int) ≤ (s.best c : Int) := Int.natCast_nonneg _
  have b8 : (s.best c : Int) < 8 := by omega
  clear h ok hcs
  generalize s.best c = b at HD d1 b0 b8 hb8
  have hq0 : b = 0 ∨ 0 < b := by omega
  have e1 : ((c : Int) != 0) = true ∧ ((c : Int) != 1) = false ∨ ((c : Int) != 0) = false := by
    rcases c with _ | _ | c
    · exact .inr rfl
    · exact .inl ⟨rfl, rfl⟩
    · omega
  clear e0
  rcases hq0 with rfl | hb
  · have hf : decide (0 < 0 ∧ s.th c < s.pr 0) = false := by simp
    rw [hf]
    clear hf d1 d2 b0 b8 hb8
    rcases e1 with ⟨e1, e2⟩ | e1
    all_goals
      go_enter Tryd.func13, Tryd.ntmps13
      go_wp2_with (go_at_call 29; refine HD.out.mono ?_; rintro e w' ⟨rfl, rfl⟩)
      go_quiet (fail)
      go_wp2
      go_ret
      exact ⟨rfl, _, rfl⟩
  · have hb2 : (0 : Int) < (b : Int) := by omega
    have hf : decide (0 < b ∧ s.th c < s.pr b) = decide (s.th c < s.pr b) := by simp [hb]
    rw [hf]
    clear hf hb8
    rcases e1 with ⟨e1, e2⟩ | e1
    all_goals
      go_enter Tryd.func13, Tryd.ntmps13
      go_wp2_with (go_at_call 29; refine HD.out.mono ?_; rintro e w' ⟨rfl, rfl⟩)
      go_quiet (fail)
      go_wp2
      go_ret
      exact ⟨rfl, _, rfl⟩
end
/-- Bits of what is so. -/
theorem dbits_any (F : Nat → Bool) (w : World) : Calls Tryd.prog 34 #[.agg (bs F)] w fun e w' => e = .returned (.int .u64 (bitsN F 8)) ∧ Below w.heap.size w w' := by
  have HX := Lib.hid (Box.made w 28 (bs F))
  have T0 : Hid (Below w.heap.size w (w.alloc (.cells (bs F) 28))) := Lib.hid ((Below.refl _ _).alloc (Nat.le_refl _) _)
  go_enter Tryd.func34, Tryd.ntmps34
  go_wp2
  generalize w.alloc (.cells (bs F) 28) = w1 at HX T0 ⊢
  go_loop [3, 4] (fun v i => ∃ k : Nat, k ≤ 8 ∧ v = .int .u64 (bitsN F k) ∧ i = .int .i64 k) (fun _ i => 8 - (intOf i).toNat)
  case atStart => exact ⟨0, Nat.zero_le _, rfl, rfl⟩
  case round =>
    obtain ⟨k, hk, rfl, rfl⟩ := hrel
    have k1 : (0 : Int) ≤ (k : Int) := Int.natCast_nonneg _
    by_cases hlt : k < 8
    · have k2 : (k : Int) < 8 := by omega
      have c0 : w1.cell? ⟨w.heap.size, k, none⟩ = some (.bool (F k)) := (HX.out.read _).trans (bs_at F k hlt)
      have hn := Lib.hid (show bitsN F (k + 1) = bitsN F k + if F k then 2 ^ k else 0 from rfl)
      have hl := bitsN_lt F k
      have hp : 2 ^ k ≤ 128 := by
        have : 2 ^ k ≤ 2 ^ 7 := Nat.pow_le_pow_right (by decide) (by omega)
        omega
      have hsh := shl_one k hlt
      generalize bitsN F k = v at hn hl
      generalize 2 ^ k = y at hn hl hp hsh
      generalize F k = b at c0 hn
      have v0 : (0 : Int) ≤ (v : Int) := Int.natCast_nonneg _
      have y0 : (0 : Int) ≤ (y : Int) := Int.natCast_nonneg _
      have hw : IntKind.u64.wrap ((v : Int) + (y : Int)) = (v : Int) + (y : Int) := by rw [IntKind.wrap_u64]; omega
      cases b
      · go_wp2
        go_round
        case rel => exact ⟨k + 1, by omega, by rw [hn.out]; simp, by go_num⟩
        case measure => simp [intOf]; omega
      · go_wp2
        go_round
        case rel => exact ⟨k + 1, by omega, by rw [hn.out]; simp, by go_num⟩
        case measure => simp [intOf]; omega
    · obtain rfl : k = 8 := by omega
      go_wp2
      go_ret
      exact ⟨rfl, T0.out⟩
theorem dmay_any (off : Nat) (width : Int) (w : World) : Calls Tryd.prog 38 #[.int .u64 off, .int .i64 width] w fun e w' => e = .returned (.bool (isReg off width)) ∧ w = w' := by
  have e1 : (off : Int) % 4 = ((off % 4 : Nat) : Int) := rfl
  have e2 : (off : Int).tmod 4 = ((off % 4 : Nat) : Int) := rfl
  by_cases hw : width = 4
  · have w1 : (width == 4) = true := by simp [hw]
    by_cases h4 : off % 4 = 0
    · have z1 : (((off % 4 : Nat) : Int) == 0) = true := by simp [h4]
      have hd : isReg off width = decide ((off : Int) < 2105344) := by
        unfold isReg
        by_cases h : off < 2105344
        · rw [decide_eq_true ⟨hw, h4, h⟩, decide_eq_true (by omega)]
        · rw [decide_eq_false (fun h' => h h'.2.2), decide_eq_false (by omega)]
      rw [hd]
      clear hw h4 hd
      generalize off % 4 = r at e1 e2 z1
      go_enter Tryd.func38, Tryd.ntmps38
      go_wp2
      go_ret
      exact ⟨rfl, rfl⟩
    · have z1 : (((off % 4 : Nat) : Int) == 0) = false := beq_eq_false_iff_ne.2 (by omega)
      have hd : isReg off width = false := decide_eq_false (fun h => h4 h.2.1)
      rw [hd]
      clear hw h4 hd
      generalize off % 4 = r at e1 e2 z1
      go_enter Tryd.func38, Tryd.ntmps38
      go_wp2
      go_ret
      exact ⟨rfl, rfl⟩
  · have w1 : (width == 4) = false := beq_eq_false_iff_ne.2 hw
    have hd : isReg off width = false := decide_eq_false (fun h => hw h.1)
    rw [hd]
    clear hw hd
    go_enter Tryd.func38, Tryd.ntmps38
    go_wp2
    go_ret
    exact ⟨rfl, rfl⟩
abbrev d16 : ByteArray := ⟨#[48, 49, 50, 51, 52, 53, 54, 55, 56, 57, 97, 98, 99, 100, 101, 102]⟩
theorem d16_cut : ∀ n, n < 16 → d16.extract n (n + 1) = st [hx n] := by decide +kernel
theorem digit_any (n : Nat) (h : n < 16) (w : World) : Calls Tryd.prog 33 #[.int .u64 n] w fun e w' => e = .returned (.string (st [hx n])) ∧ w' = w := by
  have HC := Lib.hid (d16_cut n h)
  have n0 : (0 : Int) ≤ (n : Int) := Int.natCast_nonneg _
  have n1 : (n : Int) < 16 := by omega
  go_enter Tryd.func33, Tryd.ntmps33
  go_wp2
  go_ret
  exact ⟨by rw [← HC.out]; rfl, rfl⟩
end Go.Proofs.YtlgefljbhbefgaaDoor
