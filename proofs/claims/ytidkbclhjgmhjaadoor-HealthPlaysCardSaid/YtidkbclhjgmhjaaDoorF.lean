/- What New makes of a policy; the chapter's policy. -/
import Derived.Test.YtidkbclhjgmhjaaDoorE
set_option linter.unusedVariables false
set_option linter.unusedSimpArgs false
namespace Go.Proofs.YtidkbclhjgmhjaaDoor
open Go.RowKit
section
variable {T : Nat → Int} {pg li rs : Int}

theorem size_guest : (Tryd.prog.info? 25).map (·.size) = some (guest T pg li rs).size := by kernel_rfl
theorem size_tab : (Tryd.prog.info? 23).map (·.size) = some (tabL T).length := by kernel_rfl
set_option maxHeartbeats 400000 in
theorem new_ok (hT : ∀ k, k < 17 → T k < 5) (w : World) :
    Calls Tryd.prog 6 #[.agg (guest T pg li rs)] w fun e w' => ∃ B, e = .returned (.tuple #[.pointer (some ⟨B, 0, none⟩), .int .i64 0]) ∧ w.heap.size ≤ B ∧ Box w' B 44 (mon T rs 0 0 false) ∧ Below w.heap.size w w' := by
  have hB : Box (w.alloc (.cells (guest T pg li rs) 25)) w.heap.size 25 (guest T pg li rs) := Box.made _ _ _
  have hB2 := hB.more (.cells (guest T pg li rs) 25)
  have h2 : ((w.alloc (.cells (guest T pg li rs) 25)).alloc (.cells (guest T pg li rs) 25)).cell? ⟨w.heap.size, 2, none⟩ = some (.int .u8 rs) := hB2.read 2
  go_enter Tryd.func6, Tryd.ntmps6
  go_wp2_with (refine wpList_load_row rfl 25 _ rfl w.heap.size rfl 25 (guest T pg li rs) (0, 0) _ hB Tryd.underlying25 rfl size_guest ?_)
  refine (check_ok hT _).mono ?_
  rintro e w1 ⟨rfl, rfl⟩
  go_wp2_with (first | (refine wpList_load_mid rfl 23 _ rfl w.heap.size 3 rfl (tabL T) _ (tab_range hB2) Tryd.underlying23 rfl size_tab ?_) | (refine wpList_build_to rfl 44 _ rfl (mon T rs 0 0 false) (by kernel_rfl) ?_))
  go_ret2
  exact ⟨w.heap.size + 1 + 1, rfl, by omega, by simpa using Box.made ((w.alloc (.cells (guest T pg li rs) 25)).alloc (.cells (guest T pg li rs) 25)) 44 (mon T rs 0 0 false), (((Below.refl _ _).alloc (Nat.le_refl _) _).alloc (by simp) _).alloc (by simp; omega) _⟩

set_option maxHeartbeats 400000 in
theorem new_bad (hT : ∃ k, k < 17 ∧ 5 ≤ T k) (w : World) :
    Calls Tryd.prog 6 #[.agg (guest T pg li rs)] w fun e w' => e = .returned (.tuple #[.pointer none, .int .i64 3]) ∧ Below w.heap.size w w' := by
  have hB : Box (w.alloc (.cells (guest T pg li rs) 25)) w.heap.size 25 (guest T pg li rs) := Box.made _ _ _
  go_enter Tryd.func6, Tryd.ntmps6
  go_wp2_with (refine wpList_load_row rfl 25 _ rfl w.heap.size rfl 25 (guest T pg li rs) (0, 0) _ hB Tryd.underlying25 rfl size_guest ?_)
  refine (check_bad hT _).mono ?_
  rintro e w1 ⟨rfl, rfl⟩
  go_wp2_with fail
  go_ret2
  exact ⟨rfl, ((Below.refl _ _).alloc (Nat.le_refl _) _).alloc (by simp) _⟩

end
end Go.Proofs.YtidkbclhjgmhjaaDoor
