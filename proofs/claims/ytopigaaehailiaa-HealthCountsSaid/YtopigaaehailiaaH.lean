/- HealthCounts: what the law's own text does: it answers true, and writes nothing that was there. -/
import Derived.Test.YtopigaaehailiaaG
namespace Go.Proofs.Ytopigaaehailiaa
open Go.RowKit

/-- A slice of integers that came in: nil, or a row of cells. -/
def IsRow (k : IntKind) (w : World) (a : Option Addr) (len cap : Nat) (zs : List Int) : Prop :=
  (a = none ∧ len = 0 ∧ cap = 0 ∧ zs = []) ∨
  ∃ b off, a = some ⟨b, off, none⟩ ∧ b < w.heap.size ∧ len ≤ cap ∧ cap ≤ maxLen ∧ zs.length = cap ∧ (∀ i, i < cap → w.cell? ⟨b, off + i, none⟩ = some (.int k (zs.getD i 0))) ∧ ∀ n ∈ zs, (Lit.int k n).wf = true

section
variable {T : Nat → Int} {pg li rs : Int}

set_option maxHeartbeats 400000 in
set_option maxRecDepth 100000 in
theorem law_bad (hT : ∃ k, k < 17 ∧ 5 ≤ T k) (a0 : Option Addr) (len cap : Nat) (w : World) :
    Calls Try.prog 3 #[.agg (guest T pg li rs), .slice a0 len cap] w fun e w' => e = .returned (.bool true) ∧ Below w.heap.size w w' := by
  have hB : Box (w.alloc (.cells (guest T pg li rs) 25)) w.heap.size 25 (guest T pg li rs) := Box.made _ _ _
  by_cases hl : len ≤ 200
  all_goals
    go_enter Try.func3, Try.ntmps3
    go_wp2_with (refine wpList_load_row rfl 25 (.tmp 2) rfl w.heap.size rfl 25 (guest T pg li rs) (0, 0) _ ?_ Try.underlying25 rfl size_guest ?_; exact hB)
    refine (new_bad hT _).mono ?_
    rintro e w1 ⟨rfl, d1⟩
    go_wp2_with fail
    refine (awake_any _).mono ?_
    rintro e w2 ⟨rfl, d2⟩
    go_wp2_with fail
    go_ret
    exact ⟨rfl, (((Below.refl _ _).alloc (Nat.le_refl _) _).trans (d1.mono (by simp))).trans (d2.mono (by have := d1.size; simp at this; omega))⟩

set_option maxHeartbeats 400000 in
set_option maxRecDepth 100000 in
theorem law_long (hT : ∀ k, k < 17 → T k < 5) (a0 : Option Addr) (len cap : Nat) (hl : 200 < len) (w : World) :
    Calls Try.prog 3 #[.agg (guest T pg li rs), .slice a0 len cap] w fun e w' => e = .returned (.bool true) ∧ Below w.heap.size w w' := by
  have hB : Box (w.alloc (.cells (guest T pg li rs) 25)) w.heap.size 25 (guest T pg li rs) := Box.made _ _ _
  go_enter Try.func3, Try.ntmps3
  go_wp2_with (refine wpList_load_row rfl 25 (.tmp 2) rfl w.heap.size rfl 25 (guest T pg li rs) (0, 0) _ ?_ Try.underlying25 rfl size_guest ?_; exact hB)
  refine (new_ok hT _).mono ?_
  rintro e w1 ⟨B, rfl, hB1, b1, d1⟩
  go_wp2_with fail
  refine (awake_any _).mono ?_
  rintro e w2 ⟨rfl, d2⟩
  go_wp2_with fail
  go_ret
  exact ⟨rfl, (((Below.refl _ _).alloc (Nat.le_refl _) _).trans (d1.mono (by simp))).trans (d2.mono (by have := d1.size; simp at this; omega))⟩
end
end Go.Proofs.Ytopigaaehailiaa
