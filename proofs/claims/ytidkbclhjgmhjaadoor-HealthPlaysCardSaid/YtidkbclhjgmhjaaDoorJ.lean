/- The document's monitor: what it is in memory; Check, New. -/
import Derived.Test.YtidkbclhjgmhjaaDoorH
import Derived.Test.YtidkbclhjgmhjaaDoorLn
import Derived.Test.YtidkbclhjgmhjaaDoorHp
import Derived.Test.YtidkbclhjgmhjaaDoorT
set_option linter.unusedVariables false
set_option linter.unusedSimpArgs false
namespace Go.Proofs.YtidkbclhjgmhjaaDoor
open Go.RowKit
def Yes (w : World) (e : Ending) (w' : World) : Prop := e = .returned (.bool true) ∧ Below w.heap.size w w'
section
variable {T : Nat → Int} {pg li rs : Int}
theorem pend_bd (hT : ∀ k, k < 17 → T k < 5) {f : Nat} {p : Int} {h : Bool} (h0 : 0 ≤ p) (h4 : p ≤ 4) : 0 ≤ pend T f p h ∧ pend T f p h ≤ 4 := by
  unfold pend
  split
  · have := hT f (by omega)
    omega
  · exact ⟨h0, h4⟩
theorem again_bd {m p r : Int} (h0 : 0 ≤ r) (h1 : r ≤ m) : 0 ≤ again m p r ∧ again m p r ≤ m := by
  unfold again
  split <;> omega
theorem guest_at (T : Nat → Int) (pg li rs : Int) : ∀ k : Nat, k < 17 → (guest T pg li rs)[3 + k]? = some (.int .u8 (T k))
  | 0, _ => rfl
  | 1, _ => rfl
  | 2, _ => rfl
  | 3, _ => rfl
  | 4, _ => rfl
  | 5, _ => rfl
  | 6, _ => rfl
  | 7, _ => rfl
  | 8, _ => rfl
  | 9, _ => rfl
  | 10, _ => rfl
  | 11, _ => rfl
  | 12, _ => rfl
  | 13, _ => rfl
  | 14, _ => rfl
  | 15, _ => rfl
  | 16, _ => rfl
  | k + 17, h => absurd h (by omega)
set_option maxHeartbeats 800000 in
theorem dcheck_ok (hT : ∀ k, k < 17 → T k < 5) (w : World) :
    Calls Tryd.prog 20 #[.agg (guest T pg li rs)] w fun e w' => e = .returned (.int .i64 0) ∧ w' = w.alloc (.cells (guest T pg li rs) 25) := by
  have hB : Box (w.alloc (.cells (guest T pg li rs) 25)) w.heap.size 25 (guest T pg li rs) := Box.made _ _ _
  go_enter Tryd.func20, Tryd.ntmps20
  go_wp2
  go_loop [3] (fun i => ∃ k : Nat, k ≤ 17 ∧ i = .int .i64 k) (fun i => 17 - (intOf i).toNat)
  case atStart => exact ⟨0, by omega, rfl⟩
  case round =>
    obtain ⟨k, hk, rfl⟩ := hrel
    by_cases hlt : k < 17
    · have hc : (w.alloc (.cells (guest T pg li rs) 25)).cell? ⟨w.heap.size, 3 + k, none⟩ = some (.int .u8 (T k)) := (hB.read (3 + k)).trans (guest_at T pg li rs k hlt)
      have ht := hT k hlt
      go_wp2
      go_round
      case rel => exact ⟨k + 1, by omega, by go_num⟩
      case measure => simp [intOf]; omega
    · go_wp2
      go_ret
      exact ⟨rfl, rfl⟩
set_option maxHeartbeats 800000 in
theorem dcheck_bad (hT : ∃ k, k < 17 ∧ 5 ≤ T k) (w : World) :
    Calls Tryd.prog 20 #[.agg (guest T pg li rs)] w fun e w' => e = .returned (.int .i64 3) ∧ w' = w.alloc (.cells (guest T pg li rs) 25) := by
  obtain ⟨q, hq, hT⟩ := hT
  have hB : Box (w.alloc (.cells (guest T pg li rs) 25)) w.heap.size 25 (guest T pg li rs) := Box.made _ _ _
  go_enter Tryd.func20, Tryd.ntmps20
  go_wp2
  go_loop [3] (fun i => ∃ k : Nat, k ≤ q ∧ i = .int .i64 k) (fun i => 17 - (intOf i).toNat)
  case atStart => exact ⟨0, by omega, rfl⟩
  case round =>
    obtain ⟨k, hk, rfl⟩ := hrel
    have hc : (w.alloc (.cells (guest T pg li rs) 25)).cell? ⟨w.heap.size, 3 + k, none⟩ = some (.int .u8 (T k)) := (hB.read (3 + k)).trans (guest_at T pg li rs k (by omega))
    by_cases ht : 5 ≤ T k
    · go_wp2
      go_ret
      exact ⟨rfl, rfl⟩
    · have hne : k < q := by
        rcases Nat.lt_or_ge k q with h | h
        · exact h
        · have : k = q := by omega
          subst this
          exact absurd hT ht
      go_wp2
      go_round
      case rel => exact ⟨k + 1, by omega, by go_num⟩
      case measure => simp [intOf]; omega
/-- The document's monitor, cell by cell. -/
def dmon (T : Nat → Int) (pg li rs : Int) (v : Value) (r : Int) (h : Bool) : Array Value := #[.int .u8 pg, .int .u32 li, .int .u8 rs, .int .u8 (T 0), .int .u8 (T 1), .int .u8 (T 2), .int .u8 (T 3), .int .u8 (T 4), .int .u8 (T 5), .int .u8 (T 6), .int .u8 (T 7), .int .u8 (T 8), .int .u8 (T 9), .int .u8 (T 10), .int .u8 (T 11), .int .u8 (T 12), .int .u8 (T 13), .int .u8 (T 14), .int .u8 (T 15), .int .u8 (T 16), v, .int .i64 r, .bool h]
def raws (R : List Int) : List Value := R.map fun z => .int .u8 z
/-- The document's monitor in memory: what was raised since the last Take stands in a row of its own. -/
structure Dv (w : World) (C : Nat) (T : Nat → Int) (pg li rs : Int) (R : List Int) (r : Int) (h : Bool) (K : Nat → Prop) (v : Value) : Prop where
  box : Box w C 39 (dmon T pg li rs v r h)
  lane : Lane w 5 v (raws R)
  kC : K C
  kv : ∀ k, v.ownBlock = some k → K k
def Dm (w : World) (C : Nat) (T : Nat → Int) (pg li rs : Int) (R : List Int) (r : Int) (h : Bool) (K : Nat → Prop) : Prop := ∃ v, Dv w C T pg li rs R r h K v
set_option maxHeartbeats 800000 in
theorem dnew_ok (hT : ∀ k, k < 17 → T k < 5) (w : World) :
    Calls Tryd.prog 7 #[.agg (guest T pg li rs)] w fun e w' => ∃ C, e = .returned (.tuple #[.pointer (some ⟨C, 0, none⟩), .int .i64 0]) ∧ w.heap.size ≤ C ∧ Box w' C 39 (dmon T pg li rs (.slice none 0 0) 0 false) ∧ Below w.heap.size w w' := by
  have hB : Box (w.alloc (.cells (guest T pg li rs) 25)) w.heap.size 25 (guest T pg li rs) := Box.made _ _ _
  have hB2 := hB.more (.cells (guest T pg li rs) 25)
  go_enter Tryd.func7, Tryd.ntmps7
  go_wp2_with (refine wpList_load_row rfl 25 _ rfl w.heap.size rfl 25 (guest T pg li rs) (0, 0) _ hB Tryd.underlying25 rfl size_guest ?_)
  refine (dcheck_ok hT _).mono ?_
  rintro e w1 ⟨rfl, rfl⟩
  go_wp2_with (first | (refine wpList_load_row rfl 25 _ rfl w.heap.size rfl 25 (guest T pg li rs) (0, 0) _ hB2 Tryd.underlying25 rfl size_guest ?_) | (refine wpList_build_to rfl 39 _ rfl (dmon T pg li rs (.slice none 0 0) 0 false) (by kernel_rfl) ?_))
  go_ret2
  exact ⟨w.heap.size + 1 + 1, rfl, by omega, by simpa using Box.made ((w.alloc (.cells (guest T pg li rs) 25)).alloc (.cells (guest T pg li rs) 25)) 39 (dmon T pg li rs (.slice none 0 0) 0 false), (((Below.refl _ _).alloc (Nat.le_refl _) _).alloc (by simp) _).alloc (by simp; omega) _⟩
set_option maxHeartbeats 800000 in
theorem dnew_bad (hT : ∃ k, k < 17 ∧ 5 ≤ T k) (w : World) :
    Calls Tryd.prog 7 #[.agg (guest T pg li rs)] w fun e w' => e = .returned (.tuple #[.pointer none, .int .i64 3]) ∧ Below w.heap.size w w' := by
  have hB : Box (w.alloc (.cells (guest T pg li rs) 25)) w.heap.size 25 (guest T pg li rs) := Box.made _ _ _
  go_enter Tryd.func7, Tryd.ntmps7
  go_wp2_with (refine wpList_load_row rfl 25 _ rfl w.heap.size rfl 25 (guest T pg li rs) (0, 0) _ hB Tryd.underlying25 rfl size_guest ?_)
  refine (dcheck_bad hT _).mono ?_
  rintro e w1 ⟨rfl, rfl⟩
  go_wp2_with fail
  go_ret2
  exact ⟨rfl, ((Below.refl _ _).alloc (Nat.le_refl _) _).alloc (by simp) _⟩
end
end Go.Proofs.YtidkbclhjgmhjaaDoor
