/- QueueLoads' body. -/
import Derived.Test.YtnignbpgcopehaaRa
set_option linter.unusedVariables false
set_option linter.unusedSimpArgs false
namespace Go.Proofs.Ytnignbpgcopehaa
open Go.RowKit
theorem one_load {d m : Nat} {s : ByteArray} (g1 : 1 ≤ d) (g2 : d ≤ 16) (g3 : 1 ≤ m) (g4 : m ≤ 64) (hs : s.size ≤ 2000) {p : Nat} {Ms : List Sm} (hE : loadE s d m = 0) (hl : ldAll s d m = some (p, false, Ms)) (w : World) : Calls Try.prog 18 #[.int .u8 d, .int .u8 m, .string s] w fun e w' => ∃ B, e = .returned (.tuple #[.pointer (some ⟨B, 0, none⟩), .int .i64 0]) ∧ Below w.heap.size w w' ∧ Ql w' B d m Ms := by
  refine (load_any d m g1 g2 g3 g4 s (by omega) w).mono ?_
  rintro e w' ⟨P, rfl, hb, hq⟩
  obtain ⟨B, p', Ms', rfl, hB, h4, h6, h5⟩ := hq hE
  rw [hl] at h4
  simp only [Option.some.injEq, Prod.mk.injEq] at h4
  obtain ⟨_, _, rfl⟩ := h4
  exact ⟨B, by rw [hE], hb, h5⟩
theorem one_rload {d m : Nat} {s : ByteArray} (g1 : 1 ≤ d) (g2 : d ≤ 16) (g3 : 1 ≤ m) (g4 : m ≤ 64) (hs : s.size ≤ 2000) {p : Nat} {Ms : List Sm} (hE : loadE s d m = 0) (hl : ldAll s d m = some (p, false, Ms)) (w : World) : Calls Try.prog 19 #[.int .u8 d, .int .u8 m, .string s] w fun e w' => ∃ C, e = .returned (.tuple #[.pointer (some ⟨C, 0, none⟩), .int .i64 0]) ∧ Below w.heap.size w w' ∧ ∃ a cap, Rq w' C d m (Ms.map (·.1)) a cap := by
  refine (rload_any d m g1 g2 g3 g4 s hs w).mono ?_
  rintro e w' ⟨P, rfl, hb, hq⟩
  obtain ⟨C, p', Ms', v, rfl, h4, h6, h5⟩ := hq hE
  rw [hl] at h4
  simp only [Option.some.injEq, Prod.mk.injEq] at h4
  obtain ⟨_, _, rfl⟩ := h4
  obtain ⟨a, cap, hr, _⟩ := h5.queue
  exact ⟨C, by rw [hE], hb, a, cap, hr⟩
theorem none_rload {d m : Nat} {s : ByteArray} (g1 : 1 ≤ d) (g2 : d ≤ 16) (g3 : 1 ≤ m) (g4 : m ≤ 64) (hs : s.size ≤ 2000) (w : World) : Calls Try.prog 19 #[.int .u8 d, .int .u8 m, .string s] w fun e w' => ∃ P, e = .returned (.tuple #[P, .int .i64 (loadE s d m)]) ∧ Below w.heap.size w w' := by
  refine (rload_any d m g1 g2 g3 g4 s hs w).mono ?_
  rintro e w' ⟨P, rfl, hb, hq⟩
  exact ⟨P, rfl, hb⟩
theorem all_of {d m : Nat} {s : ByteArray} (h : loadE s d m = 0) : ∃ p Ms, ldAll s d m = some (p, false, Ms) := by
  unfold loadE at h
  split at h
  · simp at h
  · rename_i p t Ms e
    split at h
    · simp at h
    · cases t
      · exact ⟨p, Ms, e⟩
      · simp_all
set_option maxHeartbeats 1000000 in
set_option maxRecDepth 200000 in
theorem loads_any (d m : Nat) (s : ByteArray) (w : World) : Calls Try.prog 4 #[.int .u8 d, .int .u8 m, .string s] w (Yes w) := by
  by_cases hs : 2000 < s.size
  · go_enter Try.func4, Try.ntmps4
    go_wp2_with (go_at_call 10; refine (awake_any _).mono ?_; rintro e w' ⟨rfl, bel⟩)
    go_ret
    exact ⟨rfl, bel⟩
  · by_cases hg : 1 ≤ d ∧ d ≤ 16 ∧ 1 ≤ m ∧ m ≤ 64
    · obtain ⟨g1, g2, g3, g4⟩ := hg
      by_cases hE : loadE s d m = 0
      · obtain ⟨p, Ms, hl⟩ := all_of hE
        have HP := Lib.hid (fun wx => one_load g1 g2 g3 g4 (by omega) hE hl wx)
        have HR := Lib.hid (fun wx => one_rload g1 g2 g3 g4 (by omega) hE hl wx)
        clear hE hl
        go_enter Try.func4, Try.ntmps4
        go_wp2_with (first
          | (go_at_call 18; refine (HP.out w).mono ?_; rintro e w1 ⟨B, rfl, hb1, hq⟩; have H1 := Lib.hid (And.intro hb1 hq); clear hb1 hq)
          | (go_at_call 19; refine (HR.out w1).mono ?_; rintro e w2 ⟨C, rfl, hb2, a, cap, hr⟩; have H2 := Lib.hid (And.intro (H1.out.1.trans (hb2.mono H1.out.1.size)) (And.intro (H1.out.2.over hb2) hr)); clear hb2 hr)
          | (go_at_call 17; refine (alike_any H2.out.2.1 H2.out.2.2).mono ?_; rintro e w3 ⟨rfl, hb3⟩; have H3 := Lib.hid (H2.out.1.trans (hb3.mono H2.out.1.size)); clear hb3)
          | (go_at_call 10; refine (awake_any _).mono ?_; rintro e w4 ⟨rfl, bel⟩))
        go_ret
        exact ⟨rfl, H3.out.trans (bel.mono H3.out.size)⟩
      · have HP := Lib.hid (fun wx => load_none (wx := wx) g1 g2 g3 g4 s (by omega))
        have HR := Lib.hid (fun wx => none_rload g1 g2 g3 g4 (s := s) (by omega) wx)
        generalize loadE s d m = z at hE HP HR
        have hE2 : (z == 0) = false := beq_eq_false_iff_ne.2 hE
        have hE3 : ¬ z = 0 := hE
        clear hE
        go_enter Try.func4, Try.ntmps4
        go_wp2_with (first
          | (go_at_call 18; refine (HP.out w).mono ?_; rintro e w1 ⟨P1, rfl, hb1⟩; have H1 := Lib.hid hb1; clear hb1)
          | (go_at_call 19; refine (HR.out w1).mono ?_; rintro e w2 ⟨P2, rfl, hb2⟩; have H2 := Lib.hid (H1.out.trans (hb2.mono H1.out.size)); clear hb2)
          | (go_at_call 10; refine (awake_any _).mono ?_; rintro e w4 ⟨rfl, bel⟩))
        go_ret
        exact ⟨rfl, H2.out.trans (bel.mono H2.out.size)⟩
    · have HP := Lib.hid (fun wx => load_bad d m hg s wx)
      have HR := Lib.hid (fun wx => rload_bad d m hg s wx)
      clear hg
      go_enter Try.func4, Try.ntmps4
      go_wp2_with (first
        | (go_at_call 18; refine (HP.out w).mono ?_; rintro e w1 ⟨rfl, rfl⟩)
        | (go_at_call 19; refine (HR.out _).mono ?_; rintro e w2 ⟨rfl, rfl⟩)
        | (go_at_call 10; refine (awake_any _).mono ?_; rintro e w4 ⟨rfl, bel⟩))
      go_ret
      exact ⟨rfl, bel⟩
end Go.Proofs.Ytnignbpgcopehaa
