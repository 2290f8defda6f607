/- RamKeeps' body: a write that is refused. -/
import Derived.Test.YtjdedgfbonlmkaaUA
set_option linter.unusedVariables false
set_option linter.unusedSimpArgs false
namespace Go.Proofs.Ytjdedgfbonlmkaa
open Go.RowKit
set_option maxHeartbeats 12800000 in
set_option maxRecDepth 200000 in
theorem keeps_no (RP : Hid Rpt) (s : ByteArray) (hs : s.size ≤ 4096) (a x o : Nat) (v : Int) (hx : x < 18446744073709551616) (hv : ¬ ((v = 1 ∨ v = 2 ∨ v = 4 ∨ v = 8) ∧ (a : Int) + v ≤ 4096)) (w : World) : Calls Try.prog 5 #[.string s, .agg #[.int .u64 a, .int .u64 x, .int .i64 v, .int .u64 o]] w (Yes w) := by
  have hw1 := Lib.hid (show wrB 4096 a v = false from decide_eq_false hv)
  have hv5 : v = 1 ∨ v = 2 ∨ v = 4 ∨ v = 8 ∨ ((v == 1) = false ∧ (v == 2) = false ∧ (v == 4) = false ∧ (v == 8) = false) := by
    by_cases h1 : v = 1
    · exact .inl h1
    · by_cases h2 : v = 2
      · exact .inr (.inl h2)
      · by_cases h3 : v = 4
        · exact .inr (.inr (.inl h3))
        · by_cases h4 : v = 8
          · exact .inr (.inr (.inr (.inl h4)))
          · exact .inr (.inr (.inr (.inr ⟨beq_eq_false_iff_ne.2 h1, beq_eq_false_iff_ne.2 h2, beq_eq_false_iff_ne.2 h3, beq_eq_false_iff_ne.2 h4⟩)))
  obtain ⟨c, hc⟩ : ∃ c : Nat, c = 4096 - s.size := ⟨_, rfl⟩
  have hcc : (4096 : Int) - (s.size : Int) = (c : Int) := by omega
  obtain ⟨L1, hL1⟩ : ∃ L1, L1 = s.data.toList ++ List.replicate c 0 := ⟨_, rfl⟩
  have e8 : s ++ str (List.replicate c 0) = str L1 := by rw [hL1]; exact str_cat s _
  have hl1 : L1.length = 4096 := by rw [hL1, List.length_append, List.length_replicate, dsz]; omega
  have e9 : ¬ 9223372036854775807 < s.size + (str (List.replicate c 0)).size := by rw [str_sz, List.length_replicate]; omega
  have hp := Lib.hid (show splice (List.replicate 4096 0) 0 s.data.toList = L1 by rw [hL1, hc]; exact splice_zero s.data.toList (by rw [dsz]; exact hs))
  have HC := Lib.hid (show c ≤ 4096 by omega)
  have z1 : ((str L1).size : Int) = 4096 := by rw [str_sz, hl1]; rfl
  clear hL1 hc hl1
  generalize hZ : str (List.replicate c 0) = Z at e8 e9
  generalize hF1 : str L1 = F1 at e8 z1
  have HZ := Lib.hid hZ
  have HF1 := Lib.hid hF1
  clear hZ hF1
  rcases hv5 with rfl | rfl | rfl | rfl | ⟨m1, m2, m3, m4⟩
  all_goals
    first | (have ha : 4096 < (a : Int) + 1 := by omega) | (have ha : 4096 < (a : Int) + 2 := by omega) | (have ha : 4096 < (a : Int) + 4 := by omega) | (have ha : 4096 < (a : Int) + 8 := by omega) | (have ha := True.intro)
    clear hv
    as_aux_lemma =>
      go_enter Try.func5, Try.ntmps5
      go_wp2_with (first | (go_at_call 8; refine (new_kp w _).mono ?_; rintro e w1 ⟨rfl, hk⟩; have HK1 := Lib.hid hk; clear hk) | (go_at_call 22; have hk1 := HK1; clear hk1; refine (RP.out _ c HC.out).mono ?_; rw [HZ.out]; rintro e w2 ⟨rfl, hb⟩; have HK2 := Lib.hid (HK1.out.over hb); clear hb) | (go_at_call 23; refine (put_kp HK2.out s hs L1 hp.out).mono ?_; rintro e w3 ⟨rfl, hk⟩; have a0 : w3.cell? ⟨w.heap.size, 0, none⟩ = some (.int .u64 a) := hk.box.read 0; have a1 : w3.cell? ⟨w.heap.size, 1, none⟩ = some (.int .u64 x) := hk.box.read 1; have a2 := hk.box.read 2; have HK3 := Lib.hid hk; clear hk) | (go_at_call 24; refine (write_kno HK3.out a x _ hx hw1.out).mono ?_; rintro e w4 ⟨rfl, hk⟩; have b0 : w4.cell? ⟨w.heap.size, 0, none⟩ = some (.int .u64 a) := hk.box.read 0; have b2 := hk.box.read 2; have HK4 := Lib.hid hk; clear hk) | (go_at_call 19; refine (bytes_kp HK4.out).mono ?_; rw [HF1.out]; rintro e w' ⟨rfl, rfl⟩) | (go_at_call 10; refine (works_any _).mono ?_; rintro e w9 ⟨rfl, bel9⟩))
      go_ret
      exact ⟨rfl, HK4.out.bel.trans (bel9.mono HK4.out.bel.size)⟩
end Go.Proofs.Ytjdedgfbonlmkaa
