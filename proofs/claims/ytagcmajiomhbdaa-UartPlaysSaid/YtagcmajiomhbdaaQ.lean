/- UartPlays' body. -/
import Derived.Test.YtagcmajiomhbdaaP
import Derived.Test.YtagcmajiomhbdaaHp
set_option linter.unusedVariables false
set_option linter.unusedSimpArgs false
namespace Go.Proofs.Ytagcmajiomhbdaa
open Go.RowKit
theorem plays_long (a : Option Addr) (len cap : Nat) (h : 120 < len) (w : World) : Calls Try.prog 3 #[.slice a len cap] w (Yes w) := by
  go_enter Try.func3, Try.ntmps3
  go_wp2_with (go_at_call 8; refine (awake_any _).mono ?_; rintro e w' ⟨rfl, bel⟩)
  go_ret
  exact ⟨rfl, bel⟩
set_option maxHeartbeats 12800000 in
set_option maxRecDepth 200000 in
theorem plays_all (a : Option Addr) (len cap : Nat) (l : List Deed) (hl : len ≤ 120) (w : World) (hf : IsDeeds w a len l) : Calls Try.prog 3 #[.slice a len cap] w (Yes w) := by
  have HL := Lib.hid hf.1
  have LA := Lib.hid fun wx bel => hf.later (wx := wx) bel
  clear hf
  go_enter Try.func3, Try.ntmps3
  go_wp2_with (first | (go_at_call 9; refine (new_any _).mono ?_; rintro e w1 ⟨rfl, rfl⟩) | (refine wpList_build_to rfl 28 _ rfl (rc .zero) (by kernel_rfl) ?_))
  have hS := Duo.new w
  generalize ((w.alloc (.cells (uc .zero (.slice none 0 0) (.slice none 0 0)) 49)).alloc (.cells (rc .zero) 28)) = w1 at hS ⊢
  generalize w.heap.size + 1 = C at hS ⊢
  generalize hBe : w.heap.size = B at hS ⊢
  have HBe := Lib.hid hBe
  clear hBe
  go_loopw [5] (fun i wr => ∃ (k : Nat) (s : US), k ≤ len ∧ i = .int .i64 k ∧ Duo [] w wr B s C s ∧ s.out.length ≤ k) (fun i _ => len - (intOf i).toNat)
  case atStart => exact ⟨0, .zero, Nat.zero_le _, rfl, hS, Nat.zero_le _⟩
  case round =>
    obtain ⟨k, s, hk, rfl, hst, hout⟩ := hrel
    clear hS
    have k1 : (0 : Int) ≤ (k : Int) := Int.natCast_nonneg _
    by_cases hlt : k < len
    · obtain ⟨f, hk2⟩ : ∃ f, l[k]? = some f := ⟨_, List.getElem?_eq_getElem (by rw [HL.out]; exact hlt)⟩
      obtain ⟨b, off, rfl, hbb, c0, c1, c2, c3, hn⟩ := (LA.out wr hst.bel).2 k f hk2
      rcases f with ⟨what, of, x, wd⟩
      have LC : Hid (∀ wx, Below w.heap.size w wx → wx.cell? ⟨b, off + k * 4, none⟩ = some (.int .u8 what) ∧ wx.cell? ⟨b, off + k * 4 + 1, none⟩ = some (.int .u64 of) ∧ wx.cell? ⟨b, off + k * 4 + 2, none⟩ = some (.int .u64 x) ∧ wx.cell? ⟨b, off + k * 4 + 3, none⟩ = some (.int .i64 wd)) := Lib.hid fun wx bel => by
        obtain ⟨b', off', e, hbb', g0, g1, g2, g3, hn'⟩ := (LA.out wx bel).2 k _ hk2
        cases e
        rw [Nat.mul_comm] at g0 g1 g2 g3
        exact ⟨g0, g1, g2, g3⟩
      have k2 : (k : Int) < (len : Int) := by omega
      simp only at hn
      have HO := Lib.hid (deed_out s ⟨what, of, x, wd⟩)
      have hsz : ((str (s.deed ⟨what, of, x, wd⟩).q).size : Int) = ((s.deed ⟨what, of, x, wd⟩).q.length : Int) := by rw [str_size]
      have HST := Lib.hid hst.drawn1
      have hHeld := LC.out _ HST.out.bel
      clear c0 c1 c2 c3 hk2 hbb hst
      go_wp2_with fail
      refine wp_region_calm (fun w' => w'.cell? ⟨b, off + k * 4, none⟩ = some (.int .u8 what) ∧ w'.cell? ⟨b, off + k * 4 + 1, none⟩ = some (.int .u64 of) ∧ w'.cell? ⟨b, off + k * 4 + 2, none⟩ = some (.int .u64 x) ∧ w'.cell? ⟨b, off + k * 4 + 3, none⟩ = some (.int .i64 wd))
        (.e 0 :: .e 0 :: .e 0 :: .e 0 :: .e 0 :: .e 0 :: .l 0 :: .e 0 :: .e 0 :: .e 0 :: .e 1 :: .l 0 :: .l 0 :: .e 0 :: .e 0 :: .e 0 :: .e 0 :: .s :: .e 1 :: .e 1 :: .e 1 :: .e 1 :: .e 1 :: .l 0 :: .e 0 :: .e 0 :: .e 0 :: .e 0 :: .e 1 :: .l 0 :: .l 0 :: .e 0 :: .e 0 :: []) (by kernel_rfl) (by kernel_rfl) (by kernel_rfl) (by kernel_rfl) ?_
      repeat (first
        | (refine mv_grow (fun w' => (w'.cell? ⟨b, off + k * 4, none⟩ = some (.int .u8 what) ∧ w'.cell? ⟨b, off + k * 4 + 1, none⟩ = some (.int .u64 of) ∧ w'.cell? ⟨b, off + k * 4 + 2, none⟩ = some (.int .u64 x) ∧ w'.cell? ⟨b, off + k * 4 + 3, none⟩ = some (.int .i64 wd)) ∧ w'.cell? ⟨C, 9, none⟩ = some (.string (str (s.deed ⟨what, of, x, wd⟩).q))) (fun _ h => h.1) ?_; have hh := And.intro hHeld (T1.out.rf.read 9); clear hHeld; have hHeld := hh; clear hh)
        | (refine mv_take0 (v := ?_) (by rfl) hHeld ?_ ?_; rotate_left 1; (focus (intro w hSw; (try dsimp only at hSw); (try obtain ⟨⟨hs0, hs1, hs2, hs3⟩, hs4⟩ := hSw); (try obtain ⟨hs0, hs1, hs2, hs3⟩ := hSw); go_simp; (try with_reducible rfl))); (try simp only [Act.put, List.setIfInBounds_toArray, List.set_cons_zero, List.set_cons_succ]))
        | (refine mv_take1 (v := ?_) (by rfl) hHeld ?_ ?_; rotate_left 1; (focus (intro w hSw; (try dsimp only at hSw); (try obtain ⟨⟨hs0, hs1, hs2, hs3⟩, hs4⟩ := hSw); (try obtain ⟨hs0, hs1, hs2, hs3⟩ := hSw); go_simp; (try with_reducible rfl))); (try simp only [Act.put, List.setIfInBounds_toArray, List.set_cons_zero, List.set_cons_succ]))
        | (refine mv_loud0 (by rfl) (fun K hK => ?_)
           go_simp
           first
             | (go_at_call 10; refine (both_any HST.out ⟨what, of, x, wd⟩ hn (by omega)).mono ?_; rintro e w5 ⟨rfl, hz⟩; have T1 := Lib.hid hz; clear hz; refine hK.out _ _ ((LC.out _ T1.out.bel)) ?_; clear hHeld; have hHeld := LC.out _ T1.out.bel; have hok := T1.out.ok)
             | (go_at_call 11; refine T1.out.level.mono ?_; rintro e w6 ⟨rfl, rfl⟩; refine hK.out _ _ hHeld ?_)
             | (go_at_call 12; refine (T1.out.rlevel hok).mono ?_; rintro e w6 ⟨rfl, rfl⟩; refine hK.out _ _ hHeld ?_)
             | (go_at_call 13; refine T1.out.waiting.mono ?_; rintro e w6 ⟨rfl, rfl⟩; refine hK.out _ _ hHeld ?_)
             | (go_at_call 14; refine T1.out.dump.mono ?_; rintro e w7 ⟨rfl, hz⟩; have T2 := Lib.hid hz; clear hz; refine hK.out _ _ ⟨LC.out _ T2.out.bel, T2.out.rf.read 9⟩ ?_; clear hHeld; have hHeld := And.intro (LC.out _ T2.out.bel) (T2.out.rf.read 9))
             | (go_at_call 15; refine (T2.out.rdump hok).mono ?_; rintro e w8 ⟨rfl, hz⟩; have T3 := Lib.hid hz; clear hz; refine hK.out _ _ ⟨LC.out _ T3.out.bel, T3.out.rf.read 9⟩ ?_; clear hHeld; have hHeld := And.intro (LC.out _ T3.out.bel) (T3.out.rf.read 9))
           clear hK K
           (try simp only [Act.put, List.setIfInBounds_toArray, List.set_cons_zero, List.set_cons_succ])))
      refine mv_calm ?_
      go_wp2_with fail
      go_roundw
      case rel => exact ⟨k + 1, _, by omega, by go_num, T3.out, by have := HO.out; omega⟩
      case measure => simp [intOf]; omega
    · have HB := Lib.hid hst
      clear hst
      obtain rfl : k = len := by omega
      clear hout hlt
      go_wp2_with (first | (go_at_call 16; refine HB.out.take.mono ?_; rintro e w2 ⟨rfl, hz⟩; have T1 := Lib.hid hz; clear hz) | (go_at_call 17; refine T1.out.rtake.mono ?_; rintro e w3 ⟨rfl, hz⟩; have T2 := Lib.hid hz; clear hz) | (go_at_call 8; refine (awake_any _).mono ?_; rintro e w9 ⟨rfl, bel9⟩))
      go_ret
      exact ⟨rfl, T2.out.bel.trans (bel9.mono T2.out.bel.size)⟩
end Go.Proofs.Ytagcmajiomhbdaa
