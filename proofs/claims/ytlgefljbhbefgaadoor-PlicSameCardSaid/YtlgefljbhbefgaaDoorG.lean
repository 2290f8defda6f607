/- Completes. -/
import Derived.Test.YtlgefljbhbefgaaDoorE
set_option linter.unusedVariables false
set_option linter.unusedSimpArgs false
namespace Go.Proofs.YtlgefljbhbefgaaDoor
open Go.RowKit
attribute [local go_sem] Oper.semAt_some
theorem bit_off : ∀ n : Nat, n < 256 → ∀ k : Nat, k < 8 → (bits .and .u8 ((n : Int) / 2 ^ k) 1 == 0) = !decide (n / 2 ^ k % 2 = 1) := by decide +kernel
section
variable {w : World} {P : Nat} {s : PS}
theorem isSource_to (n : Nat) (x : Bool) (hx : decide (1 ≤ n ∧ n < 8) = x) (w : World) : Calls Tryd.prog 23 #[.int .u64 n] w fun e w' => e = .returned (.bool x) ∧ w' = w :=
  (isSource_any n w).mono fun e w' h => ⟨by rw [h.1, hx], h.2.symm⟩
theorem done_no {c v : Nat} (h : ¬ (1 ≤ v ∧ v < 8 ∧ s.on c v = true ∧ s.se v = true)) : s.done c v = s := if_neg h
set_option maxHeartbeats 4000000 in
theorem done_any (h : Box w P 58 (plc s)) (ok : s.ok) (c : Nat) (hc : c < 2) (v : Nat) (hv : v < 4294967296) : Calls Tryd.prog 48 #[plc2 P c, .int .u32 v] w fun e w' => e = .returned (.tuple #[]) ∧ Box w' P 58 (plc (s.done c v)) ∧ Only P w w' := by
  have HX := Lib.hid (Box.made w 78 #[.pointer (some ⟨P, 0, none⟩), .int .i64 c])
  have x0 : ∀ j, ((w.alloc (.cells #[.pointer (some ⟨P, 0, none⟩), .int .i64 c] 78)).drewN j).cell? ⟨w.heap.size, 0, none⟩ = some (.pointer (some ⟨P, 0, none⟩)) := fun j => (HX.out.drawn j).read 0
  have x1 : ∀ j, ((w.alloc (.cells #[.pointer (some ⟨P, 0, none⟩), .int .i64 c] 78)).drewN j).cell? ⟨w.heap.size, 1, none⟩ = some (.int .i64 c) := fun j => (HX.out.drawn j).read 1
  have ce : ∀ j, ((w.alloc (.cells #[.pointer (some ⟨P, 0, none⟩), .int .i64 c] 78)).drewN j).cell? ⟨P, 33 + c * 2, none⟩ = some (.int .u8 (s.en c)) := fun j => (((h.more _).drawn j).read _).trans (en_at s c hc)
  have HB := Lib.hid (h.more (.cells #[.pointer (some ⟨P, 0, none⟩), .int .i64 c] 78))
  have T0 : Hid (Only P w (w.alloc (.cells #[.pointer (some ⟨P, 0, none⟩), .int .i64 c] 78))) := Lib.hid ((Only.refl P w).more _)
  have n0 : (0 : Int) ≤ (c : Int) := Int.natCast_nonneg _
  have n1 : (c : Int) < 2 := by omega
  have hen := ok.en c
  have hwv : IntKind.u64.wrap (v : Int) = (v : Int) := by rw [IntKind.wrap_u64]; omega
  clear h ok
  by_cases hs : 1 ≤ v ∧ v < 8
  · have hv0 : (0 : Int) ≤ (v : Int) := Int.natCast_nonneg _
    have hv8 : (v : Int) < 8 := by omega
    have HI := Lib.hid (isSource_to v true (decide_eq_true hs))
    have hbit := bit_off (s.en c) hen v hs.2
    have hon : s.on c v = decide (s.en c / 2 ^ v % 2 = 1) := rfl
    rw [← hon] at hbit
    cases hb : s.on c v
    · rw [hb] at hbit
      have hbit : (bits .and .u8 ((s.en c : Int) / 2 ^ v) 1 == 0) = true := hbit
      have HD := Lib.hid (done_no (s := s) (c := c) (v := v) (fun h => by rw [hb] at h; exact absurd h.2.2.1 (by decide)))
      clear hb hon hs hv
      go_enter Tryd.func48, Tryd.ntmps48
      go_wp2
      go_quiet ((go_at_call 23; exact Calls.quiet_of_same (HI.out _)))
      go_wp2
      (try simp only [Exit.inBlock, Exit.then])
      refine bodyPost_ret (results_none rfl _ _ _) rfl ?_
      exact ⟨rfl, by rw [HD.out]; exact HB.out.drawn _, T0.out.drawn _⟩
    · rw [hb] at hbit
      have hbit : (bits .and .u8 ((s.en c : Int) / 2 ^ v) 1 == 0) = false := hbit
      have d3 : ∀ j, ((w.alloc (.cells #[.pointer (some ⟨P, 0, none⟩), .int .i64 c] 78)).drewN j).cell? ⟨P, 1 + v * 4 + 3, none⟩ = some (.bool (s.se v)) := fun j => ((HB.out.drawn j).read _).trans (se_at s v hs.2)
      have f3 : ∀ j, ((w.alloc (.cells #[.pointer (some ⟨P, 0, none⟩), .int .i64 c] 78)).drewN j).frozen? ⟨P, 1 + v * 4 + 3, none⟩ = false := fun j => (HB.out.drawn j).warm _
      cases hse : s.se v
      · rw [hse] at d3
        have HD := Lib.hid (done_no (s := s) (c := c) (v := v) (fun h => by rw [hse] at h; exact absurd h.2.2.2 (by decide)))
        clear hb hon hse hv f3
        go_enter Tryd.func48, Tryd.ntmps48
        go_wp2
        go_quiet ((go_at_call 23; exact Calls.quiet_of_same (HI.out _)))
        go_wp2
        go_end0
        exact ⟨rfl, by rw [HD.out]; exact HB.out.drawn _, T0.out.drawn _⟩
      · rw [hse] at d3
        have hD : s.done c v = ({ s with se := upd s.se v false } : PS).settle v := by
          rw [PS.done, if_pos ⟨hs.1, hs.2, hb, hse⟩]
          simp [PS.settle, upd_at]
        have HD := Lib.hid hD
        have HS : Hid (∀ j, Calls Tryd.prog 24 #[.pointer (some ⟨P, 1 + v * 4, none⟩)] (((w.alloc (.cells #[.pointer (some ⟨P, 0, none⟩), .int .i64 c] 78)).drewN j).setCell ⟨P, 1 + v * 4 + 3, none⟩ (.bool false)) fun e w' => e = .returned (.tuple #[]) ∧ Box w' P 58 (plc (s.done c v)) ∧ Only P w w') := Lib.hid fun j => by
          have hp := (HB.out.drawn j).put (1 + v * 4 + 3) (.bool false)
          rw [se_put s false v hs.2] at hp
          refine (settle_any hp v hs.2).mono ?_
          rintro e w' ⟨rfl, h1, h2⟩
          exact ⟨rfl, by rw [hD]; exact h1, ((T0.out.drawn j).put (p := ⟨P, 1 + v * 4 + 3, none⟩) (.inl rfl) (.bool false)).trans h2⟩
        clear hb hon hse hv hs hD
        go_enter Tryd.func48, Tryd.ntmps48
        go_wp2
        go_quiet ((go_at_call 23; exact Calls.quiet_of_same (HI.out _)))
        go_wp2_with (go_at_call 24; refine (HS.out _).mono ?_; rintro e w' ⟨rfl, h1, h2⟩; have HR := Lib.hid (And.intro h1 h2); clear h1 h2)
        go_end0
        exact ⟨rfl, HR.out.1, HR.out.2⟩
  · have HI := Lib.hid (isSource_to v false (decide_eq_false hs))
    have HD := Lib.hid (done_no (s := s) (c := c) (v := v) (fun h => hs ⟨h.1, h.2.1⟩))
    clear hs hv
    go_enter Tryd.func48, Tryd.ntmps48
    go_wp2
    go_quiet ((go_at_call 23; exact Calls.quiet_of_same (HI.out _)))
    go_wp2
    (try simp only [Exit.inBlock, Exit.then])
    refine bodyPost_ret (results_none rfl _ _ _) rfl ?_
    exact ⟨rfl, by rw [HD.out]; exact HB.out.drawn _, T0.out.drawn _⟩
end
end Go.Proofs.YtlgefljbhbefgaaDoor
