/- Whether windows may be a table: the document's Check. -/
import Derived.Test.YtnfnhhphoiebbaaDoorFc
set_option linter.unusedVariables false
set_option linter.unusedSimpArgs false
namespace Go.Proofs.YtnfnhhphoiebbaaDoor
open Go.RowKit
open Classical in
theorem dcheck_any (G : Int) (a : Option Addr) (n cap : Nat) (l : List Win) (w : World) (hG1 : -9223372036854775808 ≤ G) (hG2 : G ≤ 9223372036854775807) (hn : n ≤ 9223372036854775807) (hf : IsWins w a n l) : Calls Tryd.prog 5 #[.slice a n cap, .int .i64 G] w fun e w' => e = .returned (.int .i64 (chk G l : Nat)) ∧ w = w' := by
  have hl := hf.1
  by_cases h1 : G < 1
  · have HV := Lib.hid (chk_low (l := l) (.inl h1))
    clear hf
    go_enter Tryd.func5, Tryd.ntmps5
    go_wp2
    go_ret
    exact ⟨retN HV.out.symm, rfl⟩
  · by_cases h2 : 16 < G
    · have HV := Lib.hid (chk_low (l := l) (.inr h2))
      clear hf
      go_enter Tryd.func5, Tryd.ntmps5
      go_wp2
      go_ret
      exact ⟨retN HV.out.symm, rfl⟩
    · have hr : ¬ (G < 1 ∨ 16 < G) := by omega
      by_cases h3 : n = 0
      · have HV := Lib.hid (chk_empty (l := l) hr (by omega))
        have e3 : ((n : Int) == 0) = true := by simp [h3]
        clear hf hr
        go_enter Tryd.func5, Tryd.ntmps5
        go_wp2
        go_ret
        exact ⟨retN HV.out.symm, rfl⟩
      · have e3 : ((n : Int) == 0) = false := beq_eq_false_iff_ne.2 (by omega)
        by_cases h4 : 32 < n
        · have HV := Lib.hid (chk_long (l := l) hr (by omega) (by omega))
          clear hf hr h3
          go_enter Tryd.func5, Tryd.ntmps5
          go_wp2
          go_ret
          exact ⟨retN HV.out.symm, rfl⟩
        · have HV := Lib.hid (And.intro (chk_scan (l := l) hr (by omega) (by omega)) (And.intro (chk_lack (l := l) hr (by omega) (by omega)) (chk_fine (l := l) hr (by omega) (by omega))))
          have HF := Lib.hid hf
          have HL := Lib.hid hl
          obtain ⟨gn, rfl⟩ : ∃ gn : Nat, G = (gn : Int) := ⟨G.toNat, by omega⟩
          have HG := Lib.hid (And.intro (show 1 ≤ gn by omega) (show gn ≤ 16 by omega))
          have g0 : (0 : Int) ≤ (gn : Int) := Int.natCast_nonneg _
          clear hf hr h3 hl
          go_enter Tryd.func5, Tryd.ntmps5
          go_wp2
          go_loop [5, 6] (fun s i => ∃ (k st : Nat), k ≤ n ∧ s = .int .i64 st ∧ i = .int .i64 k ∧ st ≤ 1024 ∧ scan gn 0 l = scan gn st (l.drop k)) (fun _ i => n - (intOf i).toNat)
          case atStart => exact ⟨0, 0, Nat.zero_le _, rfl, rfl, by omega, rfl⟩
          case round =>
            obtain ⟨k, st, hk, rfl, rfl, htop, hsc⟩ := hrel
            have k1 : (0 : Int) ≤ (k : Int) := Int.natCast_nonneg _
            have s1 : (0 : Int) ≤ (st : Int) := Int.natCast_nonneg _
            have s2 : (st : Int) ≤ 1024 := by omega
            by_cases hlt : k < n
            · have k2 : (k : Int) < (n : Int) := by omega
              obtain ⟨⟨f1, f2⟩, hkf⟩ : ∃ f, l[k]? = some f := ⟨_, List.getElem?_eq_getElem (by rw [HL.out]; exact hlt)⟩
              obtain ⟨⟨b1, b2⟩, bk, off, rfl, hc⟩ := win_at HF.out hkf
              obtain ⟨c0, c1⟩ := hc w (Below.refl _ _)
              dsimp only at b1 b2 c0 c1
              have p1 : (0 : Int) ≤ (f1 : Int) := Int.natCast_nonneg _
              have p2 : (f1 : Int) < 256 := by omega
              have q1 : (0 : Int) ≤ (f2 : Int) := Int.natCast_nonneg _
              have q2 : (f2 : Int) < 65536 := by omega
              have HK := Lib.hid hkf
              clear hc hkf htop
              have hx : ∀ x, scan gn 0 l = x → x ≠ 0 → chk gn l = x := fun x h1 h2 => (HV.out.1 (by rw [h1]; exact h2)).trans h1
              by_cases hin : (f1 : Int) < gn
              · have e4 : ((f1 : Int) != 255) = true := bne_iff_ne.2 (by have := HG.out; omega)
                have hin2 : ¬ (gn : Int) ≤ (f1 : Int) := by omega
                have hin3 : decide ((gn : Int) ≤ (f1 : Int)) = false := decide_eq_false hin2
                by_cases hz : f2 = 0
                · have HX := Lib.hid (hx 2 (hsc.trans (scan2 HK.out (.inr hin) hz)) (by decide))
                  have e5 : ((f2 : Int) == 0) = true := by simp [hz]
                  clear hx hsc hz
                  go_wp2
                  go_ret
                  exact ⟨retN HX.out.symm, rfl⟩
                · have e5 : ((f2 : Int) == 0) = false := beq_eq_false_iff_ne.2 (by omega)
                  by_cases ht : 1024 < st + f2
                  · have HX := Lib.hid (hx 5 (hsc.trans (scan5 HK.out (.inr hin) hz ht)) (by decide))
                    have t1 : (1024 : Int) < (st : Int) + (f2 : Int) := by omega
                    clear hx hsc hz ht
                    go_wp2
                    go_ret
                    exact ⟨retN HX.out.symm, rfl⟩
                  · have HX := Lib.hid (And.intro (hsc.trans (scan_go HK.out (.inr hin) hz ht)) ht)
                    have t1 : ¬ (1024 : Int) < (st : Int) + (f2 : Int) := by omega
                    have t2 : decide ((1024 : Int) < (st : Int) + (f2 : Int)) = false := decide_eq_false t1
                    clear hx hsc hz ht
                    go_wp2
                    go_round
                    case rel => exact ⟨k + 1, st + f2, by omega, by go_num, by go_num, by have := HX.out.2; omega, HX.out.1⟩
                    case measure => simp [intOf]; omega
              · by_cases hy : f1 = 255
                · have e4 : ((f1 : Int) != 255) = false := by simp [hy]
                  by_cases hz : f2 = 0
                  · have HX := Lib.hid (hx 2 (hsc.trans (scan2 HK.out (.inl hy) hz)) (by decide))
                    have e5 : ((f2 : Int) == 0) = true := by simp [hz]
                    clear hx hsc hz hy hin
                    go_wp2
                    go_ret
                    exact ⟨retN HX.out.symm, rfl⟩
                  · have e5 : ((f2 : Int) == 0) = false := beq_eq_false_iff_ne.2 (by omega)
                    by_cases ht : 1024 < st + f2
                    · have HX := Lib.hid (hx 5 (hsc.trans (scan5 HK.out (.inl hy) hz ht)) (by decide))
                      have t1 : (1024 : Int) < (st : Int) + (f2 : Int) := by omega
                      clear hx hsc hz ht hy hin
                      go_wp2
                      go_ret
                      exact ⟨retN HX.out.symm, rfl⟩
                    · have HX := Lib.hid (And.intro (hsc.trans (scan_go HK.out (.inl hy) hz ht)) ht)
                      have t1 : ¬ (1024 : Int) < (st : Int) + (f2 : Int) := by omega
                      have t2 : decide ((1024 : Int) < (st : Int) + (f2 : Int)) = false := decide_eq_false t1
                      clear hx hsc hz ht hy hin
                      go_wp2
                      go_round
                      case rel => exact ⟨k + 1, st + f2, by omega, by go_num, by go_num, by have := HX.out.2; omega, HX.out.1⟩
                      case measure => simp [intOf]; omega
                · have e4 : ((f1 : Int) != 255) = true := bne_iff_ne.2 (by omega)
                  have HX := Lib.hid (hx 6 (hsc.trans (scan6 HK.out hy hin)) (by decide))
                  have hi2 : (gn : Int) ≤ (f1 : Int) := by omega
                  clear hx hsc hin hy
                  go_wp2
                  go_ret
                  exact ⟨retN HX.out.symm, rfl⟩
            · have hk3 : k = n := by omega
              have hs0 : scan gn 0 l = 0 := hsc.trans (scan_end gn l st k (by rw [HL.out]; omega))
              have h3 := HV.out.2
              have HX := Lib.hid (And.intro (h3.1 hs0) (h3.2 hs0))
              clear h3 hs0 hlt hsc htop
              go_wp2
              go_loop [7] (fun g => ∃ m : Nat, m ≤ gn ∧ g = .int .i64 m ∧ ∀ j, j < m → ∃ v ∈ l, v.1 = j) (fun g => gn - (intOf g).toNat)
              case atStart => exact ⟨0, Nat.zero_le _, rfl, fun j h => by omega⟩
              case round =>
                obtain ⟨m, hm, rfl, hno⟩ := hrel
                have HN := Lib.hid hno
                clear hno
                have m1 : (0 : Int) ≤ (m : Int) := Int.natCast_nonneg _
                by_cases hmt : m < gn
                · have m2 : (m : Int) < (gn : Int) := by omega
                  go_wp2
                  go_loop [8, 9] (fun b j => ∃ (p : Nat) (t : Bool), p ≤ n ∧ j = .int .i64 p ∧ b = .bool t ∧ (t = true ↔ ∃ v ∈ l.take p, v.1 = m)) (fun _ j => n - (intOf j).toNat)
                  case atStart => exact ⟨0, false, Nat.zero_le _, rfl, rfl, by simp⟩
                  case round =>
                    obtain ⟨p, t, hp, rfl, rfl, ht⟩ := hrel
                    have p1 : (0 : Int) ≤ (p : Int) := Int.natCast_nonneg _
                    have HT := Lib.hid ht
                    clear ht
                    by_cases hpt : p < n
                    · have p2 : (p : Int) < (n : Int) := by omega
                      obtain ⟨⟨f1, f2⟩, hkf⟩ : ∃ f, l[p]? = some f := ⟨_, List.getElem?_eq_getElem (by rw [HL.out]; exact hpt)⟩
                      obtain ⟨⟨b1, b2⟩, bk, off, rfl, hc⟩ := win_at HF.out hkf
                      obtain ⟨c0, c1⟩ := hc w (Below.refl _ _)
                      dsimp only at b1 b2 c0 c1
                      have q1 : (0 : Int) ≤ (f1 : Int) := Int.natCast_nonneg _
                      have q2 : (f1 : Int) < 256 := by omega
                      have HK := Lib.hid (take_next hkf m)
                      clear hc hkf b2
                      cases t
                      · by_cases hf : f1 = m
                        · have e6 : ((f1 : Int) == (m : Int)) = true := by simp [hf]
                          have HY := Lib.hid hf
                          clear hf
                          go_wp2
                          go_round
                          case rel => exact ⟨p + 1, true, by omega, by go_num, rfl, ⟨fun _ => HK.out.2 (.inr HY.out), fun _ => rfl⟩⟩
                          case measure => simp [intOf]; omega
                        · have e6 : ((f1 : Int) == (m : Int)) = false := beq_eq_false_iff_ne.2 (by omega)
                          have HY := Lib.hid hf
                          clear hf
                          go_wp2
                          go_round
                          case rel => exact ⟨p + 1, false, by omega, by go_num, rfl, ⟨fun h => (by cases h), fun h => (by
                            rcases HK.out.1 h with h | h
                            · exact HT.out.2 h
                            · exact absurd h HY.out)⟩⟩
                          case measure => simp [intOf]; omega
                      · go_wp2
                        go_round
                        case rel => exact ⟨p + 1, true, by omega, by go_num, rfl, ⟨fun _ => HK.out.2 (.inl (HT.out.1 rfl)), fun _ => rfl⟩⟩
                        case measure => simp [intOf]; omega
                    · have hpl : l.take p = l := List.take_of_length_le (by rw [HL.out]; omega)
                      rw [hpl] at HT
                      cases t
                      · have HZ := Lib.hid (HX.out.1 ⟨m, by omega, fun v hv e => by have := HT.out.2 ⟨v, hv, e⟩; cases this⟩)
                        clear hpl
                        go_wp2
                        go_ret
                        exact ⟨retN HZ.out.symm, rfl⟩
                      · have HZ := Lib.hid (HT.out.1 rfl)
                        clear hpl
                        go_wp2
                        go_round
                        case rel => exact ⟨m + 1, by omega, by go_num, fun j hj => by
                          by_cases e : j = m
                          · rw [e]; exact HZ.out
                          · exact HN.out j (by omega)⟩
                        case measure => simp [intOf]; omega
                · have HZ := Lib.hid (HX.out.2 (fun ⟨g, hg, hv⟩ => by
                    obtain ⟨v, hm, e⟩ := HN.out g (by omega)
                    exact hv v hm e))
                  go_wp2
                  go_ret
                  exact ⟨retN HZ.out.symm, rfl⟩
end Go.Proofs.YtnfnhhphoiebbaaDoor
