/- What Check answers of a policy. -/
import Derived.Test.YtidkbclhjgmhjaaDoorD
import Derived.Deep.MidRow
set_option linter.unusedVariables false
set_option linter.unusedSimpArgs false
namespace Go.Proofs.YtidkbclhjgmhjaaDoor
open Go.RowKit

/-- A policy's table, and the cells of a guest. -/
def tabL (T : Nat → Int) : List Value := [.int .u8 (T 0), .int .u8 (T 1), .int .u8 (T 2), .int .u8 (T 3), .int .u8 (T 4), .int .u8 (T 5), .int .u8 (T 6), .int .u8 (T 7), .int .u8 (T 8), .int .u8 (T 9), .int .u8 (T 10), .int .u8 (T 11), .int .u8 (T 12), .int .u8 (T 13), .int .u8 (T 14), .int .u8 (T 15), .int .u8 (T 16)]
def guest (T : Nat → Int) (pg li rs : Int) : Array Value := #[.int .u8 pg, .int .u32 li, .int .u8 rs, .int .u8 (T 0), .int .u8 (T 1), .int .u8 (T 2), .int .u8 (T 3), .int .u8 (T 4), .int .u8 (T 5), .int .u8 (T 6), .int .u8 (T 7), .int .u8 (T 8), .int .u8 (T 9), .int .u8 (T 10), .int .u8 (T 11), .int .u8 (T 12), .int .u8 (T 13), .int .u8 (T 14), .int .u8 (T 15), .int .u8 (T 16)]

section
variable {T : Nat → Int} {pg li rs : Int}

/-- An element of a policy's table, by its number. -/
theorem index_tab (T : Nat → Int) (w : World) : ∀ k : Nat, k < 17 → (Instr.index 23 (.agg (tabL T).toArray) (.int .i64 (k : Int))).run Tryd.prog w = .ok (.int .u8 (T k)) w
  | 0, _ => by kernel_rfl
  | 1, _ => by kernel_rfl
  | 2, _ => by kernel_rfl
  | 3, _ => by kernel_rfl
  | 4, _ => by kernel_rfl
  | 5, _ => by kernel_rfl
  | 6, _ => by kernel_rfl
  | 7, _ => by kernel_rfl
  | 8, _ => by kernel_rfl
  | 9, _ => by kernel_rfl
  | 10, _ => by kernel_rfl
  | 11, _ => by kernel_rfl
  | 12, _ => by kernel_rfl
  | 13, _ => by kernel_rfl
  | 14, _ => by kernel_rfl
  | 15, _ => by kernel_rfl
  | 16, _ => by kernel_rfl
  | k + 17, h => absurd h (by omega)

theorem tab_range {w : World} {b : Nat} (h : Box w b 25 (guest T pg li rs)) : w.rangeAt b 3 (tabL T) := by
  have e : ((guest T pg li rs).extract 3 (3 + 17)).toList = tabL T := by kernel_rfl
  have := World.rangeAt_of_block h 3 17
  rwa [e] at this

set_option maxHeartbeats 400000 in
theorem check_ok (hT : ∀ k, k < 17 → T k < 5) (w : World) :
    Calls Tryd.prog 8 #[.agg (guest T pg li rs)] w fun e w' => e = .returned (.int .i64 0) ∧ w.alloc (.cells (guest T pg li rs) 25) = w' := by
  go_enter Tryd.func8, Tryd.ntmps8
  go_wp2_with (refine wpList_load_mid rfl 23 _ rfl w.heap.size 3 rfl (tabL T) _ (tab_range (Box.made _ _ _)) Tryd.underlying23 rfl (by kernel_rfl) ?_)
  go_loop [7] (fun i => ∃ k : Nat, k ≤ 17 ∧ i = .int .i64 k) (fun i => 17 - (intOf i).toNat)
  case atStart => exact ⟨0, by omega, rfl⟩
  case round =>
    obtain ⟨k, hk, rfl⟩ := hrel
    by_cases hlt : k < 17
    · have hi := fun w => index_tab T w k hlt
      have ht := hT k hlt
      go_wp2
      go_round
      case rel => exact ⟨k + 1, by omega, by go_num⟩
      case measure => simp [intOf]; omega
    · go_wp2
      go_ret
      exact ⟨rfl, rfl⟩

set_option maxHeartbeats 400000 in
theorem check_bad (hT : ∃ k, k < 17 ∧ 5 ≤ T k) (w : World) :
    Calls Tryd.prog 8 #[.agg (guest T pg li rs)] w fun e w' => e = .returned (.int .i64 3) ∧ w.alloc (.cells (guest T pg li rs) 25) = w' := by
  obtain ⟨q, hq, hT⟩ := hT
  go_enter Tryd.func8, Tryd.ntmps8
  go_wp2_with (refine wpList_load_mid rfl 23 _ rfl w.heap.size 3 rfl (tabL T) _ (tab_range (Box.made _ _ _)) Tryd.underlying23 rfl (by kernel_rfl) ?_)
  go_loop [7] (fun i => ∃ k : Nat, k ≤ q ∧ i = .int .i64 k) (fun i => 17 - (intOf i).toNat)
  case atStart => exact ⟨0, by omega, rfl⟩
  case round =>
    obtain ⟨k, hk, rfl⟩ := hrel
    have hi := fun w => index_tab T w k (by omega)
    by_cases ht : 5 ≤ T k
    · go_wp2
      go_ret
      exact ⟨rfl, rfl⟩
    · have hne : k < q := by
        rcases Nat.lt_or_ge k q with h | h
        · exact h
        · have : k = q := by omega
          subst this
          exact absurd hT ht
      go_wp2
      go_round
      case rel => exact ⟨k + 1, by omega, by go_num⟩
      case measure => simp [intOf]; omega
end
end Go.Proofs.YtidkbclhjgmhjaaDoor
