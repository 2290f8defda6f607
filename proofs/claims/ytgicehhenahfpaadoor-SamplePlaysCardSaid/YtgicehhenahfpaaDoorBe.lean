/- The program's Text. -/
import Derived.Test.YtgicehhenahfpaaDoorBd
set_option linter.unusedVariables false
set_option linter.unusedSimpArgs false
namespace Go.Proofs.YtgicehhenahfpaaDoor
open Go.RowKit
attribute [local go_sem] Oper.semAt_some
theorem digs20 {n : Nat} (hn : n < 18446744073709551616) : (Lib.decDigits n).length ≤ 20 := digs_len hn
section
variable {m v : Int} {n C : Nat} {w : World}
theorem ptext_none (h : Box w C 56 (chan m v n false 0 ⟨#[]⟩ fresh0)) : Calls Tryd.prog 15 #[.pointer (some ⟨C, 0, none⟩)] w fun e w' => e = .returned (.string (st [45])) ∧ Below w.heap.size w w' := by
  have c4 : w.cell? ⟨C, 4, none⟩ = some (.bool false) := h.read 4
  go_enter Tryd.func15, Tryd.ntmps15
  go_wp2_with (go_at_call 22; refine (isMade_any h).mono ?_; rintro e w' ⟨rfl, rfl⟩)
  go_ret
  exact ⟨rfl, Below.refl _ _⟩
set_option maxHeartbeats 8000000 in
theorem ptext_some {t : Nat} {s : ByteArray} {R : List Int} (h : Box w C 56 (chan m v n true t s (marks n R))) (hn1 : 1 ≤ n) (hn : n ≤ 16) (ht : t < 18446744073709551616) (hs : s.size ≤ 1048576) (htab : Lib.TabIs Tryd.prog w "internal/strconv.uint64pow10" .u64 Lib.pow10Tab) :
    Calls Tryd.prog 15 #[.pointer (some ⟨C, 0, none⟩)] w fun e w' => e = .returned (.string (st (textL t s.data.toList (unread R) n))) ∧ Below w.heap.size w w' := by
  have c4 : w.cell? ⟨C, 4, none⟩ = some (.bool true) := h.read 4
  have HC := Lib.hid h
  have c3 : ∀ j, (w.drewN j).cell? ⟨C, 3, none⟩ = some (.int .i64 n) := fun j => (h.drawn j).read 3
  have hal : Tryd.prog.arrayLen 54 = 16 := by simp [Program.arrayLen, Tryd.underlying54]
  have hsl : ∀ W, (Instr.sliceAt 54 (.pointer (some ⟨C, 7, none⟩)) none (some (.int .i64 n)) none).run Tryd.prog W = .ok (.slice (some ⟨C, 7, none⟩) n 16) W := fun W => by
    rw [Go.run_sliceAt_array_h W 54 ⟨C, 7, none⟩ (by simp [Program.arrayLen, Program.elem, Tryd.underlying54]) .i64 (n : Int) (by omega) (by rw [hal]; omega)]
    go_simp
    try omega
  have HM := Lib.hid (isMade_any h)
  have HTB := Lib.hid htab
  clear h hal htab
  go_enter Tryd.func15, Tryd.ntmps15
  go_wp2_with (go_at_call 22; refine HM.out.mono ?_; rintro e w' ⟨rfl, rfl⟩)
  go_quiet (fail)
  have H1 : Hid (Box (w.drewN nq) C 56 (chan m v n true t s (marks n R)) ∧ Below w.heap.size w (w.drewN nq)) := Lib.hid ⟨HC.out.drawn nq, below_drawn (Below.refl _ _) nq⟩
  generalize w.drewN nq = w1 at H1 ⊢
  clear c3 c4 hsl
  go_wp2
  go_loop [3, 25] (fun x i => ∃ k : Nat, k ≤ n ∧ x = .string (st (bitsL (unread R) k)) ∧ i = .int .i64 k) (fun _ i => n - (intOf i).toNat)
  case atStart => exact ⟨0, Nat.zero_le _, rfl, rfl⟩
  case round =>
    obtain ⟨k, hk, rfl, rfl⟩ := hrel
    have k1 : (0 : Int) ≤ (k : Int) := Int.natCast_nonneg _
    have hbl : (bitsL (unread R) k).length = k := by simp [bitsL]
    by_cases hlt : k < n
    · have k2 : (k : Int) < (n : Int) := by omega
      have HX : Hid (bitsL (unread R) (k + 1) = bitsL (unread R) k ++ [if unread R k then 49 else 48]) := Lib.hid (by simp [bitsL, List.range_succ])
      have y1 : ¬ 9223372036854775807 < (st (bitsL (unread R) k)).size + 1 := by rw [st_size]; omega
      have HA := Lib.hid (st_app (bitsL (unread R) k))
      have hmk : marks n R k = unread R k := by simp [marks, hlt]
      have c7 : w1.cell? ⟨C, 7 + k, none⟩ = some (.bool (unread R k)) := by rw [← hmk]; exact (H1.out.1.read (7 + k)).trans (chan_at m v n true t s (marks n R) k (by omega))
      clear hmk hbl
      generalize unread R k = ub at c7 HX
      cases ub
      all_goals
        go_wp2
        go_round
        case rel => exact ⟨k + 1, by omega, by rw [HX.out, ← HA.out]; rfl, by go_num⟩
        case measure => simp [intOf]; omega
    · have hke : k = n := by omega
      subst hke
      have hln : (Lib.decDigits t).length ≤ 20 := digs20 ht
      have hhx : (hexT s.data.toList).length ≤ 2097153 := by
        unfold hexT
        split
        · simp
        · rw [hexL_len]
          have : s.data.toList.length = s.size := Array.length_toList
          omega
      have y1 : ¬ 9223372036854775807 < (st (Lib.decDigits t)).size + 1 := by rw [st_size]; omega
      have y2 : ¬ 9223372036854775807 < (st (Lib.decDigits t)).size + 1 + (st (hexT s.data.toList)).size := by rw [st_size, st_size]; omega
      have y3 : ¬ 9223372036854775807 < (st (Lib.decDigits t)).size + 1 + (st (hexT s.data.toList)).size + 1 := by rw [st_size, st_size]; omega
      have y4 : ¬ 9223372036854775807 < (st (Lib.decDigits t)).size + 1 + (st (hexT s.data.toList)).size + 1 + (st (bitsL (unread R) k)).size := by rw [st_size, st_size, st_size, hbl]; omega
      have HE : Hid (st (Lib.decDigits t) ++ ⟨#[32]⟩ ++ st (hexT s.data.toList) ++ ⟨#[32]⟩ ++ st (bitsL (unread R) k) = st (textL t s.data.toList (unread R) k)) := Lib.hid (by
        have e : (⟨#[32]⟩ : ByteArray) = st [32] := rfl
        rw [e, st_app, st_app, st_app, st_app]
        congr 1
        simp [textL])
      have T1 : Hid (Below w.heap.size w w1.drew) := Lib.hid H1.out.2.drew
      have D1 : Hid (∀ W, Below w.heap.size w W → Calls Tryd.prog 27 #[.int .u64 t, .int .i64 10] W fun e w' => e = .returned (.string (st (Lib.decDigits t))) ∧ Below W.heap.size W w') := Lib.hid (fun W (hb : Below w.heap.size w W) => format_any t ht W (tab_below HTB.out hb))
      have D2 := Lib.hid (fun W => phex_any s hs W)
      have LC : Hid (∀ W, Below w.heap.size w W → W.cell? ⟨C, 5, none⟩ = some (.int .u64 t) ∧ W.cell? ⟨C, 6, none⟩ = some (.string s)) := Lib.hid fun W hb => ⟨(HC.out.over hb HC.out.inHeap).read 5, (HC.out.over hb HC.out.inHeap).read 6⟩
      have hHeld := LC.out _ T1.out
      clear hln hhx hlt hbl hn1 ht hs
      go_wp2
      refine wp_region_calm (fun w' => w'.cell? ⟨C, 5, none⟩ = some (.int .u64 t) ∧ w'.cell? ⟨C, 6, none⟩ = some (.string s))
        (.e 0 :: .e 0 :: .e 0 :: .e 0 :: .e 2 :: .e 2 :: .e 2 :: .e 2 :: .e 5 :: .l 0 :: .e 0 :: .l 0 :: .e 0 :: .e 0 :: .e 0 :: .e 0 :: []) (by kernel_rfl) (by kernel_rfl) (by kernel_rfl) (by kernel_rfl) ?_
      repeat (first
        | (refine mv_take0 (v := ?_) (by rfl) hHeld ?_ ?_; rotate_left 1; (focus (intro w hSw; (try dsimp only at hSw); obtain ⟨hs0, hs1⟩ := hSw; go_simp; (try with_reducible rfl); done)); (try simp only [Act.put, List.setIfInBounds_toArray, List.set_cons_zero, List.set_cons_succ]))
        | (refine mv_take2 (v := ?_) (by rfl) hHeld ?_ ?_; rotate_left 1; (focus (intro w hSw; (try dsimp only at hSw); obtain ⟨hs0, hs1⟩ := hSw; go_simp; (try with_reducible rfl); done)); (try simp only [Act.put, List.setIfInBounds_toArray, List.set_cons_zero, List.set_cons_succ]))
        | (refine mv_take5 (v := ?_) (by rfl) hHeld ?_ ?_; rotate_left 1; (focus (intro w hSw; (try dsimp only at hSw); obtain ⟨hs0, hs1⟩ := hSw; go_simp; (try with_reducible rfl); done)); (try simp only [Act.put, List.setIfInBounds_toArray, List.set_cons_zero, List.set_cons_succ])))
      refine mv_loud0 (by rfl) (fun K2 hK => ?_)
      go_simp
      go_at_call 27
      refine (D1.out _ T1.out).mono ?_
      rintro e w2 ⟨rfl, hz⟩
      have T2 := Lib.hid (T1.out.trans (hz.mono T1.out.size))
      clear hz hHeld
      have hHeld := LC.out _ T2.out
      refine hK.out _ _ hHeld ?_
      clear hK K2
      (try simp only [Act.put, List.setIfInBounds_toArray, List.set_cons_zero, List.set_cons_succ])
      repeat (first
        | (refine mv_take0 (v := ?_) (by rfl) hHeld ?_ ?_; rotate_left 1; (focus (intro w hSw; (try dsimp only at hSw); obtain ⟨hs0, hs1⟩ := hSw; go_simp; (try with_reducible rfl); done)); (try simp only [Act.put, List.setIfInBounds_toArray, List.set_cons_zero, List.set_cons_succ]))
        | (refine mv_take2 (v := ?_) (by rfl) hHeld ?_ ?_; rotate_left 1; (focus (intro w hSw; (try dsimp only at hSw); obtain ⟨hs0, hs1⟩ := hSw; go_simp; (try with_reducible rfl); done)); (try simp only [Act.put, List.setIfInBounds_toArray, List.set_cons_zero, List.set_cons_succ]))
        | (refine mv_take5 (v := ?_) (by rfl) hHeld ?_ ?_; rotate_left 1; (focus (intro w hSw; (try dsimp only at hSw); obtain ⟨hs0, hs1⟩ := hSw; go_simp; (try with_reducible rfl); done)); (try simp only [Act.put, List.setIfInBounds_toArray, List.set_cons_zero, List.set_cons_succ])))
      refine mv_loud0 (by rfl) (fun K2 hK => ?_)
      go_simp
      go_at_call 28
      refine (D2.out _).mono ?_
      rintro e w3 ⟨rfl, hz⟩
      have T3 := Lib.hid (T2.out.trans (hz.mono T2.out.size))
      clear hz hHeld
      have hHeld := LC.out _ T3.out
      refine hK.out _ _ hHeld ?_
      clear hK K2
      (try simp only [Act.put, List.setIfInBounds_toArray, List.set_cons_zero, List.set_cons_succ])
      repeat (first
        | (refine mv_take0 (v := ?_) (by rfl) hHeld ?_ ?_; rotate_left 1; (focus (intro w hSw; (try dsimp only at hSw); obtain ⟨hs0, hs1⟩ := hSw; go_simp; (try with_reducible rfl); done)); (try simp only [Act.put, List.setIfInBounds_toArray, List.set_cons_zero, List.set_cons_succ]))
        | (refine mv_take2 (v := ?_) (by rfl) hHeld ?_ ?_; rotate_left 1; (focus (intro w hSw; (try dsimp only at hSw); obtain ⟨hs0, hs1⟩ := hSw; go_simp; (try with_reducible rfl); done)); (try simp only [Act.put, List.setIfInBounds_toArray, List.set_cons_zero, List.set_cons_succ]))
        | (refine mv_take5 (v := ?_) (by rfl) hHeld ?_ ?_; rotate_left 1; (focus (intro w hSw; (try dsimp only at hSw); obtain ⟨hs0, hs1⟩ := hSw; go_simp; (try with_reducible rfl); done)); (try simp only [Act.put, List.setIfInBounds_toArray, List.set_cons_zero, List.set_cons_succ])))
      refine mv_calm ?_
      go_wp2
      go_ret
      exact ⟨by rw [← HE.out]; rfl, T3.out⟩
theorem ptext_any {o : Option Msg} (h : Box w C 56 (chanO m v n o)) (hn1 : 1 ≤ n) (hn : n ≤ 16) (ho : okO o) (htab : Lib.TabIs Tryd.prog w "internal/strconv.uint64pow10" .u64 Lib.pow10Tab) :
    Calls Tryd.prog 15 #[.pointer (some ⟨C, 0, none⟩)] w fun e w' => e = .returned (.string (st (tellL n o))) ∧ Below w.heap.size w w' := by
  rcases o with _ | ⟨t, s, R⟩
  · exact ptext_none h
  · exact ptext_some h hn1 hn ho.1 ho.2 htab
end
end Go.Proofs.YtgicehhenahfpaaDoor
