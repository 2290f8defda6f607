/- RamKeeps' body, width 2. -/
import Derived.Test.YtjdedgfbonlmkaaUA
set_option linter.unusedVariables false
set_option linter.unusedSimpArgs false
namespace Go.Proofs.Ytjdedgfbonlmkaa
open Go.RowKit
set_option maxHeartbeats 12800000 in
set_option maxRecDepth 200000 in
theorem keeps_2_in (RP : Hid Rpt) (s : ByteArray) (hs : s.size ≤ 4096) (a x o n : Nat) (hx : x < 18446744073709551616) (hn : n = 2) (ha : a + n ≤ 4096) (ho : o < 4096) (w : World) : Calls Try.prog 5 #[.string s, .agg #[.int .u64 a, .int .u64 x, .int .i64 n, .int .u64 o]] w (Yes w) := by
  subst hn
  have hw1 := Lib.hid (show wrB 4096 a 2 = true from decide_eq_true (by omega))
  obtain ⟨c, hc⟩ : ∃ c : Nat, c = 4096 - s.size := ⟨_, rfl⟩
  have hcc : (4096 : Int) - (s.size : Int) = (c : Int) := by omega
  obtain ⟨L1, hL1⟩ : ∃ L1, L1 = s.data.toList ++ List.replicate c 0 := ⟨_, rfl⟩
  have e8 : s ++ str (List.replicate c 0) = str L1 := by rw [hL1]; exact str_cat s _
  have hl1 : L1.length = 4096 := by rw [hL1, List.length_append, List.length_replicate, dsz]; omega
  have e9 : ¬ 9223372036854775807 < s.size + (str (List.replicate c 0)).size := by rw [str_sz, List.length_replicate]; omega
  have hp := Lib.hid (show splice (List.replicate 4096 0) 0 s.data.toList = L1 by rw [hL1, hc]; exact splice_zero s.data.toList (by rw [dsz]; exact hs))
  obtain ⟨L2, hL2⟩ : ∃ L2, lay L1 a x 2 = L2 := ⟨_, rfl⟩
  have hl2 : L2.length = 4096 := by rw [← hL2, lay_len]; exact hl1
  have hnum := Lib.hid (show num L2 a 2 = x % 65536 from by rw [← hL2]; exact num_lay L1 a x 2 (by omega))
  have htk : L2.take a = L1.take a := by rw [← hL2]; exact lay_take L1 a x 2
  have hdr : L2.drop (a + 2) = L1.drop (a + 2) := by rw [← hL2]; exact lay_drop L1 a x 2
  have ht0 : at8 L2 (a) = x % 256 := by rw [← hL2]; exact (at8_lay L1 a x 2 0 (by omega) (by omega)).trans (by simp)
  have ht1 : at8 L2 (a + 1) = x / 256 % 256 := by rw [← hL2]; exact (at8_lay L1 a x 2 1 (by omega) (by omega)).trans (by simp)
  have HL2 := Lib.hid hL2
  have HC := Lib.hid (show c ≤ 4096 by omega)
  have HT1 := Lib.hid htk
  have HT2 := Lib.hid hdr
  have HB0 := Lib.hid ht0
  have HB1 := Lib.hid ht1
  have HN1 := Lib.hid hl1
  have HN2 := Lib.hid hl2
  clear hL2 htk hdr ht0 ht1 hL1 hc hl1 hl2
  have z2 : ((str L2).size : Int) = 4096 := by rw [str_sz, HN2.out]; rfl
  have z1 : ((str L1).size : Int) = 4096 := by rw [str_sz, HN1.out]; rfl
  have r1 := run_slice_take L1 a (by rw [HN1.out]; omega)
  have r2 := run_slice_take L2 a (by rw [HN2.out]; omega)
  have r3 := run_slice_drop L1 (a + 2) ((a : Int) + 2) (by omega) (by rw [HN1.out]; omega)
  have r4 := run_slice_drop L2 (a + 2) ((a : Int) + 2) (by omega) (by rw [HN2.out]; omega)
  rw [HT1.out] at r2
  rw [HT2.out] at r4
  generalize str (L1.take a) = TK at r1 r2
  generalize str (L1.drop (a + 2)) = DR at r3 r4
  generalize hZ : str (List.replicate c 0) = Z at e8 e9
  generalize hF1 : str L1 = F1 at e8 z1 r1 r3
  have hF : ∀ (i : Nat) (h : i < (str L2).size), ((str L2)[i]'h).toNat = at8 L2 i := fun i h => str_get L2 i h
  generalize hF2 : str L2 = F2 at z2 r2 r4 hF
  have HZ := Lib.hid hZ
  have HF1 := Lib.hid hF1
  have HF2 := Lib.hid hF2
  clear hZ hF1 hF2
  go_enter Try.func5, Try.ntmps5
  go_wp2_with (first | (go_at_call 8; refine (new_kp w _).mono ?_; rintro e w1 ⟨rfl, hk⟩; have HK1 := Lib.hid hk; clear hk) | (go_at_call 22; have hk1 := HK1; clear hk1; refine (RP.out _ c HC.out).mono ?_; rw [HZ.out]; rintro e w2 ⟨rfl, hb⟩; have HK2 := Lib.hid (HK1.out.over hb); clear hb) | (go_at_call 23; refine (put_kp HK2.out s hs L1 hp.out).mono ?_; rintro e w3 ⟨rfl, hk⟩; have a0 : w3.cell? ⟨w.heap.size, 0, none⟩ = some (.int .u64 a) := hk.box.read 0; have a1 : w3.cell? ⟨w.heap.size, 1, none⟩ = some (.int .u64 x) := hk.box.read 1; have a2 : w3.cell? ⟨w.heap.size, 2, none⟩ = some (.int .i64 (2 : Nat)) := hk.box.read 2; have HK3 := Lib.hid hk; clear hk) | (go_at_call 24; refine (write_kp HK3.out a x 2 hx hw1.out L2 HL2.out).mono ?_; rintro e w4 ⟨rfl, hk⟩; have b0 : w4.cell? ⟨w.heap.size, 0, none⟩ = some (.int .u64 a) := hk.box.read 0; have b1 : w4.cell? ⟨w.heap.size, 1, none⟩ = some (.int .u64 x) := hk.box.read 1; have b2 : w4.cell? ⟨w.heap.size, 2, none⟩ = some (.int .i64 (2 : Nat)) := hk.box.read 2; have b3 : w4.cell? ⟨w.heap.size, 3, none⟩ = some (.int .u64 o) := hk.box.read 3; have HK4 := Lib.hid hk; clear hk) | (go_at_call 19; refine (bytes_kp HK4.out).mono ?_; rw [HF2.out]; rintro e w' ⟨rfl, rfl⟩))
  go_quiet ((go_at_call 25; exact Calls.quiet_of (reads_to (HK4.out.drawn _) a 2 (x % 65536) _ (mask_eq x 16 65535 65536 hx (by decide) (by decide)) (by omega) (by omega) hnum.out)))
  have hk5 := HK4.out.drawn nq
  clear b0 b1 b2 b3
  generalize (w4.drewN nq) = w5 at hk5 ⊢
  have HK5 := Lib.hid hk5
  clear hk5 HK4
  go_wp2
  go_loopw [12] (fun i wr => ∃ k : Nat, k ≤ 2 ∧ i = .int .i64 k ∧ Kp w w.heap.size #[.int .u64 a, .int .u64 x, .int .i64 (2 : Nat), .int .u64 o] (w.heap.size + 2) (w.heap.size + 1) L2 wr) (fun i _ => 2 - (intOf i).toNat)
  case atStart => exact ⟨0, by omega, rfl, HK5.out⟩
  case round =>
    obtain ⟨k, hk, rfl, hkp⟩ := hrel
    have b0 : wr.cell? ⟨w.heap.size, 0, none⟩ = some (.int .u64 a) := hkp.box.read 0
    have b1 : wr.cell? ⟨w.heap.size, 1, none⟩ = some (.int .u64 x) := hkp.box.read 1
    have b3 : wr.cell? ⟨w.heap.size, 3, none⟩ = some (.int .u64 o) := hkp.box.read 3
    have HK := Lib.hid hkp
    clear hkp HK5
    have m3 : (at8 L2 o : Int) % 256 = (at8 L2 o : Int) := by have := at8_lt L2 o; omega
    by_cases hlt : k < 2
    · clear m3
      have hk8 : k = 0 ∨ k = 1 := by omega
      rcases hk8 with rfl | rfl
      · have q0 : at8 L2 (a) = x % 256 := HB0.out
        as_aux_lemma =>
          go_wp2
          go_quiet (fail)
          have hk5 := HK.out.drawn nq
          generalize (wr.drewN nq) = w5 at hk5 ⊢
          have HK5 := Lib.hid hk5
          clear hk5 HK
          go_wp2
          go_roundw
          case rel => exact ⟨1, by omega, rfl, HK5.out⟩
          case measure => simp [intOf]
      · have q0 : at8 L2 (a + 1) = x / 256 % 256 := HB1.out
        as_aux_lemma =>
          go_wp2
          go_quiet (fail)
          have hk5 := HK.out.drawn nq
          generalize (wr.drewN nq) = w5 at hk5 ⊢
          have HK5 := Lib.hid hk5
          clear hk5 HK
          go_wp2
          go_roundw
          case rel => exact ⟨2, by omega, rfl, HK5.out⟩
          case measure => simp [intOf]
    · obtain rfl : k = 2 := by omega
      as_aux_lemma =>
        go_wp2_with (first | (go_at_call 10; refine (works_any _).mono ?_; rintro e w9 ⟨rfl, bel9⟩) | (go_at_call 26; refine (read_kp HK.out o ho).mono ?_; rintro e w6 ⟨rfl, hk⟩; have c3 : w6.cell? ⟨w.heap.size, 3, none⟩ = some (.int .u64 o) := hk.box.read 3; have HK6 := Lib.hid hk; clear hk))
        go_ret
        exact ⟨rfl, HK6.out.bel.trans (bel9.mono HK6.out.bel.size)⟩
set_option maxHeartbeats 12800000 in
set_option maxRecDepth 200000 in
theorem keeps_2_out (RP : Hid Rpt) (s : ByteArray) (hs : s.size ≤ 4096) (a x o n : Nat) (hx : x < 18446744073709551616) (hn : n = 2) (ha : a + n ≤ 4096) (ho : ¬ o < 4096) (w : World) : Calls Try.prog 5 #[.string s, .agg #[.int .u64 a, .int .u64 x, .int .i64 n, .int .u64 o]] w (Yes w) := by
  subst hn
  have hw1 := Lib.hid (show wrB 4096 a 2 = true from decide_eq_true (by omega))
  obtain ⟨c, hc⟩ : ∃ c : Nat, c = 4096 - s.size := ⟨_, rfl⟩
  have hcc : (4096 : Int) - (s.size : Int) = (c : Int) := by omega
  obtain ⟨L1, hL1⟩ : ∃ L1, L1 = s.data.toList ++ List.replicate c 0 := ⟨_, rfl⟩
  have e8 : s ++ str (List.replicate c 0) = str L1 := by rw [hL1]; exact str_cat s _
  have hl1 : L1.length = 4096 := by rw [hL1, List.length_append, List.length_replicate, dsz]; omega
  have e9 : ¬ 9223372036854775807 < s.size + (str (List.replicate c 0)).size := by rw [str_sz, List.length_replicate]; omega
  have hp := Lib.hid (show splice (List.replicate 4096 0) 0 s.data.toList = L1 by rw [hL1, hc]; exact splice_zero s.data.toList (by rw [dsz]; exact hs))
  obtain ⟨L2, hL2⟩ : ∃ L2, lay L1 a x 2 = L2 := ⟨_, rfl⟩
  have hl2 : L2.length = 4096 := by rw [← hL2, lay_len]; exact hl1
  have hnum := Lib.hid (show num L2 a 2 = x % 65536 from by rw [← hL2]; exact num_lay L1 a x 2 (by omega))
  have htk : L2.take a = L1.take a := by rw [← hL2]; exact lay_take L1 a x 2
  have hdr : L2.drop (a + 2) = L1.drop (a + 2) := by rw [← hL2]; exact lay_drop L1 a x 2
  have ht0 : at8 L2 (a) = x % 256 := by rw [← hL2]; exact (at8_lay L1 a x 2 0 (by omega) (by omega)).trans (by simp)
  have ht1 : at8 L2 (a + 1) = x / 256 % 256 := by rw [← hL2]; exact (at8_lay L1 a x 2 1 (by omega) (by omega)).trans (by simp)
  have HL2 := Lib.hid hL2
  have HC := Lib.hid (show c ≤ 4096 by omega)
  have HT1 := Lib.hid htk
  have HT2 := Lib.hid hdr
  have HB0 := Lib.hid ht0
  have HB1 := Lib.hid ht1
  have HN1 := Lib.hid hl1
  have HN2 := Lib.hid hl2
  clear hL2 htk hdr ht0 ht1 hL1 hc hl1 hl2
  have z2 : ((str L2).size : Int) = 4096 := by rw [str_sz, HN2.out]; rfl
  have z1 : ((str L1).size : Int) = 4096 := by rw [str_sz, HN1.out]; rfl
  have r1 := run_slice_take L1 a (by rw [HN1.out]; omega)
  have r2 := run_slice_take L2 a (by rw [HN2.out]; omega)
  have r3 := run_slice_drop L1 (a + 2) ((a : Int) + 2) (by omega) (by rw [HN1.out]; omega)
  have r4 := run_slice_drop L2 (a + 2) ((a : Int) + 2) (by omega) (by rw [HN2.out]; omega)
  rw [HT1.out] at r2
  rw [HT2.out] at r4
  generalize str (L1.take a) = TK at r1 r2
  generalize str (L1.drop (a + 2)) = DR at r3 r4
  generalize hZ : str (List.replicate c 0) = Z at e8 e9
  generalize hF1 : str L1 = F1 at e8 z1 r1 r3
  have hF : ∀ (i : Nat) (h : i < (str L2).size), ((str L2)[i]'h).toNat = at8 L2 i := fun i h => str_get L2 i h
  generalize hF2 : str L2 = F2 at z2 r2 r4 hF
  have HZ := Lib.hid hZ
  have HF1 := Lib.hid hF1
  have HF2 := Lib.hid hF2
  clear hZ hF1 hF2
  go_enter Try.func5, Try.ntmps5
  go_wp2_with (first | (go_at_call 8; refine (new_kp w _).mono ?_; rintro e w1 ⟨rfl, hk⟩; have HK1 := Lib.hid hk; clear hk) | (go_at_call 22; have hk1 := HK1; clear hk1; refine (RP.out _ c HC.out).mono ?_; rw [HZ.out]; rintro e w2 ⟨rfl, hb⟩; have HK2 := Lib.hid (HK1.out.over hb); clear hb) | (go_at_call 23; refine (put_kp HK2.out s hs L1 hp.out).mono ?_; rintro e w3 ⟨rfl, hk⟩; have a0 : w3.cell? ⟨w.heap.size, 0, none⟩ = some (.int .u64 a) := hk.box.read 0; have a1 : w3.cell? ⟨w.heap.size, 1, none⟩ = some (.int .u64 x) := hk.box.read 1; have a2 : w3.cell? ⟨w.heap.size, 2, none⟩ = some (.int .i64 (2 : Nat)) := hk.box.read 2; have HK3 := Lib.hid hk; clear hk) | (go_at_call 24; refine (write_kp HK3.out a x 2 hx hw1.out L2 HL2.out).mono ?_; rintro e w4 ⟨rfl, hk⟩; have b0 : w4.cell? ⟨w.heap.size, 0, none⟩ = some (.int .u64 a) := hk.box.read 0; have b1 : w4.cell? ⟨w.heap.size, 1, none⟩ = some (.int .u64 x) := hk.box.read 1; have b2 : w4.cell? ⟨w.heap.size, 2, none⟩ = some (.int .i64 (2 : Nat)) := hk.box.read 2; have b3 : w4.cell? ⟨w.heap.size, 3, none⟩ = some (.int .u64 o) := hk.box.read 3; have HK4 := Lib.hid hk; clear hk) | (go_at_call 19; refine (bytes_kp HK4.out).mono ?_; rw [HF2.out]; rintro e w' ⟨rfl, rfl⟩))
  go_quiet ((go_at_call 25; exact Calls.quiet_of (reads_to (HK4.out.drawn _) a 2 (x % 65536) _ (mask_eq x 16 65535 65536 hx (by decide) (by decide)) (by omega) (by omega) hnum.out)))
  have hk5 := HK4.out.drawn nq
  clear b0 b1 b2 b3
  generalize (w4.drewN nq) = w5 at hk5 ⊢
  have HK5 := Lib.hid hk5
  clear hk5 HK4
  go_wp2
  go_loopw [12] (fun i wr => ∃ k : Nat, k ≤ 2 ∧ i = .int .i64 k ∧ Kp w w.heap.size #[.int .u64 a, .int .u64 x, .int .i64 (2 : Nat), .int .u64 o] (w.heap.size + 2) (w.heap.size + 1) L2 wr) (fun i _ => 2 - (intOf i).toNat)
  case atStart => exact ⟨0, by omega, rfl, HK5.out⟩
  case round =>
    obtain ⟨k, hk, rfl, hkp⟩ := hrel
    have b0 : wr.cell? ⟨w.heap.size, 0, none⟩ = some (.int .u64 a) := hkp.box.read 0
    have b1 : wr.cell? ⟨w.heap.size, 1, none⟩ = some (.int .u64 x) := hkp.box.read 1
    have b3 : wr.cell? ⟨w.heap.size, 3, none⟩ = some (.int .u64 o) := hkp.box.read 3
    have HK := Lib.hid hkp
    clear hkp HK5
    have m3 : (at8 L2 o : Int) % 256 = (at8 L2 o : Int) := by have := at8_lt L2 o; omega
    by_cases hlt : k < 2
    · clear m3
      have hk8 : k = 0 ∨ k = 1 := by omega
      rcases hk8 with rfl | rfl
      · have q0 : at8 L2 (a) = x % 256 := HB0.out
        as_aux_lemma =>
          go_wp2
          go_quiet (fail)
          have hk5 := HK.out.drawn nq
          generalize (wr.drewN nq) = w5 at hk5 ⊢
          have HK5 := Lib.hid hk5
          clear hk5 HK
          go_wp2
          go_roundw
          case rel => exact ⟨1, by omega, rfl, HK5.out⟩
          case measure => simp [intOf]
      · have q0 : at8 L2 (a + 1) = x / 256 % 256 := HB1.out
        as_aux_lemma =>
          go_wp2
          go_quiet (fail)
          have hk5 := HK.out.drawn nq
          generalize (wr.drewN nq) = w5 at hk5 ⊢
          have HK5 := Lib.hid hk5
          clear hk5 HK
          go_wp2
          go_roundw
          case rel => exact ⟨2, by omega, rfl, HK5.out⟩
          case measure => simp [intOf]
    · obtain rfl : k = 2 := by omega
      have mo : ¬ (o : Int) < 4096 := by omega
      as_aux_lemma =>
        go_wp2_with (first | (go_at_call 10; refine (works_any _).mono ?_; rintro e w9 ⟨rfl, bel9⟩) | (go_at_call 26; refine (read_none HK.out o ho).mono ?_; rintro e w6 ⟨rfl, rfl⟩))
        go_ret
        exact ⟨bool_eq (show (!decide ((o : Int) < 4096)) = true by rw [decide_eq_false (by omega)]; rfl), HK.out.bel.trans (bel9.mono HK.out.bel.size)⟩
end Go.Proofs.Ytjdedgfbonlmkaa
