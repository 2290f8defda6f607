/- A memory: Read; and what stands of a reservation, act by act. -/
import Derived.Test.YtjdedgfbonlmkaaE
set_option linter.unusedVariables false
set_option linter.unusedSimpArgs false
namespace Go.Proofs.Ytjdedgfbonlmkaa
open Go.RowKit
section
variable {w w' : World} {B g N at' wd : Nat} {l : List UInt8}
set_option maxHeartbeats 4000000 in
theorem read_ok (h : Rm w B g N at' wd l) (a n : Nat) (hn : n = 1 ∨ n = 2 ∨ n = 4 ∨ n = 8) (ha : a + n ≤ N) : Calls Try.prog 26 #[.pointer (some ⟨B, 0, none⟩), .int .u64 a, .int .i64 n] w (ReadQ w) := by
  have hN := h.top
  have hl := h.len
  have c0 : w.cell? ⟨B, 0, none⟩ = some (.slice (some ⟨g, 0, none⟩) N N) := h.box.read 0
  have hr := run_slice_mem h a (by omega)
  rw [if_neg (by omega)] at hr
  have HT := Lib.hid (fun wx (hx : Rm wx B g N at' wd l) => there_any hx a n)
  rw [decide_eq_true ha] at HT
  have HM := Lib.hid h
  have cell : ∀ i, i < N → ∃ u : Nat, w.cell? ⟨g, i, none⟩ = some (.int .u8 u) ∧ u < 256 := fun i hi => ⟨(l[i]'(by omega)).toNat, (h.mem.read i).trans (vals_get (by omega)), UInt8.toNat_lt _⟩
  have k0 : (n : Int) ≤ ((N - a : Nat) : Int) := by omega
  generalize hna : N - a = m at hr k0
  have HNA := Lib.hid hna
  clear h hna hl
  obtain rfl | rfl | rfl | rfl := hn
  · obtain ⟨u0, d0, b0⟩ := cell a (by omega)
    have k00 : (0 : Int) < (m : Int) := by omega
    clear cell k0
    as_aux_lemma =>
      go_enter Try.func26, Try.ntmps26
      go_wp2_with (first | (go_at_call 47; refine (width_any _ _).mono ?_; rintro e w' ⟨rfl, rfl⟩) | (go_at_call 37; refine (HT.out _ HM.out).mono ?_; rintro e w' ⟨rfl, rfl⟩))
      go_ret2
      exact ⟨_, _, rfl, 0, rfl⟩
  · obtain ⟨u0, d0, b0⟩ := cell a (by omega)
    obtain ⟨u1, d1, b1⟩ := cell (a + 1) (by omega)
    have k00 : (0 : Int) < (m : Int) := by omega
    have k01 : (1 : Int) < (m : Int) := by omega
    clear cell k0
    as_aux_lemma =>
      go_enter Try.func26, Try.ntmps26
      go_wp2_with (first | (go_at_call 47; refine (width_any _ _).mono ?_; rintro e w' ⟨rfl, rfl⟩) | (go_at_call 37; refine (HT.out _ HM.out).mono ?_; rintro e w' ⟨rfl, rfl⟩))
      go_ret2
      exact ⟨_, _, rfl, 0, rfl⟩
  · obtain ⟨u0, d0, b0⟩ := cell a (by omega)
    obtain ⟨u1, d1, b1⟩ := cell (a + 1) (by omega)
    obtain ⟨u2, d2, b2⟩ := cell (a + 2) (by omega)
    obtain ⟨u3, d3, b3⟩ := cell (a + 3) (by omega)
    have k00 : (0 : Int) < (m : Int) := by omega
    have k01 : (1 : Int) < (m : Int) := by omega
    have k02 : (2 : Int) < (m : Int) := by omega
    have k03 : (3 : Int) < (m : Int) := by omega
    clear cell k0
    as_aux_lemma =>
      go_enter Try.func26, Try.ntmps26
      go_wp2_with (first | (go_at_call 47; refine (width_any _ _).mono ?_; rintro e w' ⟨rfl, rfl⟩) | (go_at_call 37; refine (HT.out _ HM.out).mono ?_; rintro e w' ⟨rfl, rfl⟩))
      go_quiet (fail)
      go_wp2
      go_ret2
      exact ⟨_, _, rfl, _, rfl⟩
  · obtain ⟨u0, d0, b0⟩ := cell a (by omega)
    obtain ⟨u1, d1, b1⟩ := cell (a + 1) (by omega)
    obtain ⟨u2, d2, b2⟩ := cell (a + 2) (by omega)
    obtain ⟨u3, d3, b3⟩ := cell (a + 3) (by omega)
    obtain ⟨u4, d4, b4⟩ := cell (a + 4) (by omega)
    obtain ⟨u5, d5, b5⟩ := cell (a + 5) (by omega)
    obtain ⟨u6, d6, b6⟩ := cell (a + 6) (by omega)
    obtain ⟨u7, d7, b7⟩ := cell (a + 7) (by omega)
    have k00 : (0 : Int) < (m : Int) := by omega
    have k01 : (1 : Int) < (m : Int) := by omega
    have k02 : (2 : Int) < (m : Int) := by omega
    have k03 : (3 : Int) < (m : Int) := by omega
    have k04 : (4 : Int) < (m : Int) := by omega
    have k05 : (5 : Int) < (m : Int) := by omega
    have k06 : (6 : Int) < (m : Int) := by omega
    have k07 : (7 : Int) < (m : Int) := by omega
    clear cell k0
    as_aux_lemma =>
      go_enter Try.func26, Try.ntmps26
      go_wp2_with (first | (go_at_call 47; refine (width_any _ _).mono ?_; rintro e w' ⟨rfl, rfl⟩) | (go_at_call 37; refine (HT.out _ HM.out).mono ?_; rintro e w' ⟨rfl, rfl⟩))
      go_quiet (fail)
      go_wp2
      go_quiet (fail)
      go_wp2
      go_ret2
      exact ⟨_, _, rfl, _, rfl⟩
end
end Go.Proofs.Ytjdedgfbonlmkaa
