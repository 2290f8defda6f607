/- The document's Copy and Fresh, in the words of channels. -/
import Derived.Test.YtgicehhenahfpaaDoorBb
set_option linter.unusedVariables false
set_option linter.unusedSimpArgs false
namespace Go.Proofs.YtgicehhenahfpaaDoor
open Go.RowKit
attribute [local go_sem] Oper.semAt_some
section
variable {w : World} {B H c : Nat} {m v n : Int} {o : Option Msg}
theorem dcopy_any (h : Dc w B H m v n c o) (hc : c ≤ 1048576) : Calls Tryd.prog 10 #[.pointer (some ⟨B, 0, none⟩)] w fun e w' => ∃ B', e = .returned (.pointer (some ⟨B', 0, none⟩)) ∧ Dc w' B' w.heap.size m v n c o ∧ w.heap.size ≤ B' ∧ Below w.heap.size w w' := by
  rcases o with _ | ⟨t, s, R⟩
  · refine (dcopy_all (f := fun _ => (0, ⟨#[]⟩, [])) ⟨h, fun i hi => absurd hi (Nat.not_lt_zero i)⟩ (Nat.zero_le _) hc).mono ?_
    rintro e w' ⟨B', sl, xs, rfl, hC, h1, h2⟩
    refine ⟨B', rfl, ?_, h1, h2⟩
    have hb := hC.box
    rw [hC.zero rfl] at hb
    exact hb
  · obtain ⟨g, k, cap, xs, rv, hd⟩ := h
    obtain ⟨f, hf, hs⟩ := Src.of hd
    refine (dcopy_all hs hd.hk hc).mono ?_
    rintro e w' ⟨B', sl, xs, rfl, hC, h1, h2⟩
    have := hC.done hd.hk
    rw [hf] at this
    exact ⟨B', rfl, this, h1, h2⟩
/-- Who is fresh, in the document's words. -/
def freshD (n : Int) (o : Option Msg) (k : Int) : Bool :=
  match o with
  | none => false
  | some (t, s, R) => decide (0 ≤ k) && (decide (k < n) && !decide (k ∈ R))
set_option maxHeartbeats 2000000 in
theorem dfresh_any {n : Nat} (h : Dc w B H m v n c o) (hc : c ≤ 1048576) (k : Int) : Calls Tryd.prog 14 #[.pointer (some ⟨B, 0, none⟩), .int .i64 k] w fun e w' => e = .returned (.bool (freshD n o k)) ∧ ∃ j, w' = w.drewN j := by
  obtain ⟨sl, hb⟩ := h.cells
  by_cases h0 : 0 ≤ k
  · by_cases h1 : k < (n : Int)
    · rcases o with _ | ⟨t, s, R⟩
      · have hb' : Box w B 36 (dch m v n (.slice none 0 0)) := h
        have c2 : ∀ j, (w.drewN j).cell? ⟨B, 2, none⟩ = some (.int .i64 n) := fun j => (hb'.drawn j).read 2
        have c3 : ∀ j, (w.drewN j).cell? ⟨B, 3, none⟩ = some (.slice none 0 0) := fun j => (hb'.drawn j).read 3
        clear h hb hb'
        go_enter Tryd.func14, Tryd.ntmps14
        go_wp2
        go_quiet (fail)
        go_wp2
        go_ret
        exact ⟨rfl, _, rfl⟩
      · obtain ⟨g, q, cap, xs, rv, hd⟩ := h
        obtain ⟨ar, nr, cr, rfl⟩ : ∃ a n c, rv = .slice a n c := by
          obtain ⟨a, c, h, _⟩ := hd.lane.shape
          exact ⟨a, _, c, h⟩
        have hq := hd.hk
        have hR := hd.hR
        have hlR : R.length = nr := by
          obtain ⟨a, c, h, _⟩ := hd.lane.shape
          cases h
          simp [iv_len]
        have hb' := hd.box
        have c2 : ∀ j, (w.drewN j).cell? ⟨B, 2, none⟩ = some (.int .i64 n) := fun j => (hb'.drawn j).read 2
        have c3 : ∀ j, (w.drewN j).cell? ⟨B, 3, none⟩ = some (.slice (some ⟨g, 0, none⟩) (q + 1) cap) := fun j => (hb'.drawn j).read 3
        have d2 : ∀ j, (w.drewN j).cell? ⟨g, q * 3 + 2, none⟩ = some (.slice ar nr cr) := fun j => (World.ownsRow.cellAt (hd.drawn j).own (q * 3 + 2) (by omega)).trans hd.x2
        have HL := Lib.hid hd.lane
        have e1 : ((q : Int) + 1 - 1) = (q : Int) := by omega
        have q0 : (0 : Int) ≤ (q : Int) := Int.natCast_nonneg _
        have q1 : (q : Int) ≤ 1048576 := by omega
        have e2 : decide (0 ≤ k) = true := decide_eq_true h0
        have e3 : decide (k < (n : Int)) = true := decide_eq_true h1
        have hv : freshD n (some (t, s, R)) k = !decide (k ∈ R) := by simp [freshD, e2, e3]
        rw [hv]
        clear hb hb' hd hv
        go_enter Tryd.func14, Tryd.ntmps14
        go_wp2
        go_quiet ((go_at_call 26; exact Calls.quiet_of_same (in_any hlR (HL.out.drawn _) (by omega) k)))
        go_wp2
        go_ret
        exact ⟨rfl, _, rfl⟩
    · have c2 : ∀ j, (w.drewN j).cell? ⟨B, 2, none⟩ = some (.int .i64 n) := fun j => (hb.drawn j).read 2
      have e3 : decide (k < (n : Int)) = false := decide_eq_false h1
      have hv : freshD n o k = false := by rcases o with _ | ⟨t, s, R⟩ <;> simp [freshD, e3]
      rw [hv]
      clear h hb hv
      go_enter Tryd.func14, Tryd.ntmps14
      go_wp2
      go_quiet (fail)
      go_wp2
      go_ret
      exact ⟨rfl, _, rfl⟩
  · have e2 : decide (0 ≤ k) = false := decide_eq_false h0
    have hv : freshD n o k = false := by rcases o with _ | ⟨t, s, R⟩ <;> simp [freshD, e2]
    rw [hv]
    clear h hb hv
    go_enter Tryd.func14, Tryd.ntmps14
    go_wp2
    go_quiet (fail)
    go_wp2
    go_ret
    exact ⟨rfl, _, rfl⟩
/-- Fresh of the program. -/
theorem fresh_any {n C : Nat} (h : Box w C 56 (chanO m v n o)) (hn : n ≤ 16) (k : Int) : Calls Tryd.prog 13 #[.pointer (some ⟨C, 0, none⟩), .int .i64 k] w fun e w' => e = .returned (.bool (freshD n o k)) ∧ w = w' := by
  by_cases hk : k < 0 ∨ (n : Int) ≤ k
  · have hv : freshD n o k = false := by
      rcases o with _ | ⟨t, s, R⟩
      · rfl
      · rcases hk with h1 | h1
        · have : decide (0 ≤ k) = false := decide_eq_false (by omega)
          simp [freshD, this]
        · have : decide (k < (n : Int)) = false := decide_eq_false (by omega)
          simp [freshD, this]
    rw [hv]
    rcases o with _ | ⟨t, s, R⟩ <;> exact fresh_out h k hk
  · obtain ⟨j, rfl⟩ : ∃ j : Nat, k = j := ⟨k.toNat, by omega⟩
    rcases o with _ | ⟨t, s, R⟩
    · exact fresh_in h j (by omega) (by omega)
    · have hv : freshD n (some (t, s, R)) (j : Int) = marks n R j := by
        have e1 : decide ((0 : Int) ≤ (j : Int)) = true := decide_eq_true (by omega)
        have e2 : decide ((j : Int) < (n : Int)) = true := decide_eq_true (by omega)
        have e3 : decide (j < n) = true := decide_eq_true (by omega)
        simp [freshD, marks, unread, e1, e2, e3]
      rw [hv]
      exact fresh_in h j (by omega) (by omega)
end
end Go.Proofs.YtgicehhenahfpaaDoor
