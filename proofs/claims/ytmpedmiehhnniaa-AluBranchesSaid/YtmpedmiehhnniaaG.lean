/- AluBranches: what the law's own text does. -/
import Derived.Test.YtmpedmiehhnniaaF
namespace Go.Proofs.Ytmpedmiehhnniaa
open Go.RowKit

theorem val_add : IntKind.u64.wrap (18446744073709551615 + 2) = 1 := by decide +kernel
theorem do_add_known (w : World) : Calls Try.prog 31 #[.int .u8 31, .int .u64 18446744073709551615, .int .u64 2] w fun e w' => e = .returned (.tuple #[.int .u64 1, .bool true]) ∧ Below w.heap.size w w' := by
  have h := do_add 18446744073709551615 2 w
  rw [val_add] at h
  exact h

set_option maxHeartbeats 1000000 in
/-- The chapter's answers hold. -/
theorem works_any (w : World) : Calls Try.prog 35 #[] w fun e w' => e = .returned (.bool true) ∧ Below w.heap.size w w' := by
  go_enter Try.func35, Try.ntmps35
  go_wp2_with fail
  refine (blt_known _).mono ?_
  rintro e w1 ⟨rfl, d1⟩
  go_wp2_with fail
  refine (is_any 31 _ _ _ do_add_known _).mono ?_
  rintro e w2 ⟨rfl, d2⟩
  go_wp2_with fail
  refine (is_any 58 _ _ _ do_div_known _).mono ?_
  rintro e w3 ⟨rfl, d3⟩
  go_wp2_with fail
  refine (is_any 57 _ _ _ do_mulhu_known _).mono ?_
  rintro e w4 ⟨rfl, d4⟩
  go_wp2_with fail
  refine (is_any 49 _ _ _ do_sraw_known _).mono ?_
  rintro e w5 ⟨rfl, d5⟩
  go_wp2_with fail
  go_ret
  have s1 := d1.size
  have s2 := d2.size
  have s3 := d3.size
  have s4 := d4.size
  exact ⟨rfl, (((d1.trans (d2.mono s1)).trans (d3.mono (by omega))).trans (d4.mono (by omega))).trans (d5.mono (by omega))⟩

set_option maxHeartbeats 1000000 in
theorem branches_any (op a b : Int) (ha0 : 0 ≤ a) (ha1 : a ≤ 18446744073709551615) (hb0 : 0 ≤ b) (hb1 : b ≤ 18446744073709551615) (w : World) :
    Calls Try.prog 8 #[.int .u8 op, .int .u64 a, .int .u64 b] w fun e w' => e = .returned (.bool true) ∧ Below w.heap.size w w' := by
  have d0 : Below w.heap.size w (w.alloc (.cells #[.int .u64 a, .int .u64 b] 74)) := (Below.refl _ _).alloc (Nat.le_refl _) _
  by_cases h5 : op = 5
  · subst h5
    rcases Decidable.em (a = b) with rfl | q
    all_goals
      go_enter Try.func8, Try.ntmps8
      go_wp2_with (first | (go_at_call 35; refine (works_any _).mono ?_; rintro e w9 ⟨rfl, d9⟩) | go_in)
      go_ret
      exact ⟨rfl, d0.trans (d9.mono (by simp))⟩
  by_cases h6 : op = 6
  · subst h6
    rcases Decidable.em (a = b) with rfl | q
    all_goals
      go_enter Try.func8, Try.ntmps8
      go_wp2_with (first | (go_at_call 35; refine (works_any _).mono ?_; rintro e w9 ⟨rfl, d9⟩) | go_in)
      go_ret
      exact ⟨rfl, d0.trans (d9.mono (by simp))⟩
  by_cases h9 : op = 9
  · subst h9
    by_cases q : a < b
    all_goals
      go_enter Try.func8, Try.ntmps8
      go_wp2_with (first | (go_at_call 35; refine (works_any _).mono ?_; rintro e w9 ⟨rfl, d9⟩) | go_in)
      go_ret
      exact ⟨rfl, d0.trans (d9.mono (by simp))⟩
  by_cases h10 : op = 10
  · subst h10
    by_cases q : a < b
    all_goals
      go_enter Try.func8, Try.ntmps8
      go_wp2_with (first | (go_at_call 35; refine (works_any _).mono ?_; rintro e w9 ⟨rfl, d9⟩) | go_in)
      go_ret
      exact ⟨rfl, d0.trans (d9.mono (by simp))⟩
  by_cases h7 : op = 7
  · subst h7
    obtain ⟨x, hx⟩ : ∃ x, slt a b = x := ⟨_, rfl⟩
    have HX := Lib.hid hx
    clear hx
    cases x
    all_goals
      go_enter Try.func8, Try.ntmps8
      go_wp2_with (first | (go_at_call 54; refine (less_any _ _ _ HX.out _).mono ?_; rintro e w8 ⟨rfl, d8⟩; have l8 := d8.size; simp only [World.size_alloc] at l8) | (go_at_call 55; refine (refLess_any _ _ ha0 ha1 hb0 hb1 _ HX.out _).mono ?_; rintro e w7 ⟨rfl, rfl⟩) | (go_at_call 35; refine (works_any _).mono ?_; rintro e w9 ⟨rfl, d9⟩) | go_in)
      go_ret
      exact ⟨rfl, (d0.trans (d8.mono (by simp))).trans (d9.mono (by omega))⟩
  by_cases h8 : op = 8
  · subst h8
    obtain ⟨x, hx⟩ : ∃ x, slt a b = x := ⟨_, rfl⟩
    have HX := Lib.hid hx
    clear hx
    cases x
    all_goals
      go_enter Try.func8, Try.ntmps8
      go_wp2_with (first | (go_at_call 54; refine (less_any _ _ _ HX.out _).mono ?_; rintro e w8 ⟨rfl, d8⟩; have l8 := d8.size; simp only [World.size_alloc] at l8) | (go_at_call 55; refine (refLess_any _ _ ha0 ha1 hb0 hb1 _ HX.out _).mono ?_; rintro e w7 ⟨rfl, rfl⟩) | (go_at_call 35; refine (works_any _).mono ?_; rintro e w9 ⟨rfl, d9⟩) | go_in)
      go_ret
      exact ⟨rfl, (d0.trans (d8.mono (by simp))).trans (d9.mono (by omega))⟩
  go_enter Try.func8, Try.ntmps8
  go_wp2_with (first | (go_at_call 35; refine (works_any _).mono ?_; rintro e w9 ⟨rfl, d9⟩) | go_in)
  go_ret
  exact ⟨rfl, d0.trans (d9.mono (by simp))⟩
end Go.Proofs.Ytmpedmiehhnniaa
