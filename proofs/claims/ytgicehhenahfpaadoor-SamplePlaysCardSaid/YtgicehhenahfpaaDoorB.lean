/- What New, isMade, isEnd and Fresh of a sampling channel do. -/
import Derived.Test.YtgicehhenahfpaaDoorA
namespace Go.Proofs.YtgicehhenahfpaaDoor
open Go.RowKit

/-- The cells of a channel: how long a message may be, how long it is fresh, how many ends there are, whether there is a message, when it was written, what it is, and which ends have not read it. -/
def chan (m v n : Int) (has : Bool) (t : Int) (s : ByteArray) (F : Nat → Bool) : Array Value :=
  #[.bool true, .int .i64 m, .int .u32 v, .int .i64 n, .bool has, .int .u64 t, .string s, .bool (F 0), .bool (F 1), .bool (F 2), .bool (F 3), .bool (F 4), .bool (F 5), .bool (F 6), .bool (F 7), .bool (F 8), .bool (F 9), .bool (F 10), .bool (F 11), .bool (F 12), .bool (F 13), .bool (F 14), .bool (F 15)]

theorem chan_at (m v n : Int) (has : Bool) (t : Int) (s : ByteArray) (F : Nat → Bool) : ∀ k : Nat, k < 16 → (chan m v n has t s F)[7 + k]? = some (.bool (F k))
  | 0, _ => rfl
  | 1, _ => rfl
  | 2, _ => rfl
  | 3, _ => rfl
  | 4, _ => rfl
  | 5, _ => rfl
  | 6, _ => rfl
  | 7, _ => rfl
  | 8, _ => rfl
  | 9, _ => rfl
  | 10, _ => rfl
  | 11, _ => rfl
  | 12, _ => rfl
  | 13, _ => rfl
  | 14, _ => rfl
  | 15, _ => rfl
  | k + 16, h => absurd h (by omega)

/-- One end's mark is turned. -/
def turn (F : Nat → Bool) (k : Nat) (x : Bool) (i : Nat) : Bool := if i = k then x else F i

theorem chan_turn (m v n : Int) (has : Bool) (t : Int) (s : ByteArray) (F : Nat → Bool) (x : Bool) : ∀ k : Nat, k < 16 → (chan m v n has t s F).setIfInBounds (7 + k) (.bool x) = chan m v n has t s (turn F k x)
  | 0, _ => by kernel_rfl
  | 1, _ => by kernel_rfl
  | 2, _ => by kernel_rfl
  | 3, _ => by kernel_rfl
  | 4, _ => by kernel_rfl
  | 5, _ => by kernel_rfl
  | 6, _ => by kernel_rfl
  | 7, _ => by kernel_rfl
  | 8, _ => by kernel_rfl
  | 9, _ => by kernel_rfl
  | 10, _ => by kernel_rfl
  | 11, _ => by kernel_rfl
  | 12, _ => by kernel_rfl
  | 13, _ => by kernel_rfl
  | 14, _ => by kernel_rfl
  | 15, _ => by kernel_rfl
  | k + 16, h => absurd h (by omega)

section
variable {m v n t : Int} {has : Bool} {s : ByteArray} {F : Nat → Bool} {B : Nat} {w : World}

set_option maxHeartbeats 400000 in
theorem isMade_any (hb : Box w B 56 (chan m v n has t s F)) :
    Calls Tryd.prog 22 #[.pointer (some ⟨B, 0, none⟩)] w fun e w' => e = .returned (.bool true) ∧ w = w' := by
  have h0 : w.cell? ⟨B, 0, none⟩ = some (.bool true) := hb.read 0
  clear hb
  go_enter Tryd.func22, Tryd.ntmps22
  go_wp2
  go_ret
  exact ⟨rfl, rfl⟩

set_option maxHeartbeats 400000 in
theorem isEnd_yes (hb : Box w B 56 (chan m v n has t s F)) (k : Int) (h0 : 0 ≤ k) (h1 : k < n) :
    Calls Tryd.prog 25 #[.pointer (some ⟨B, 0, none⟩), .int .i64 k] w fun e w' => e = .returned (.bool true) ∧ w = w' := by
  have h3 : w.cell? ⟨B, 3, none⟩ = some (.int .i64 n) := hb.read 3
  clear hb
  go_enter Tryd.func25, Tryd.ntmps25
  go_wp2
  go_ret
  exact ⟨rfl, rfl⟩

set_option maxHeartbeats 400000 in
theorem isEnd_no (hb : Box w B 56 (chan m v n has t s F)) (k : Int) (h0 : k < 0 ∨ n ≤ k) :
    Calls Tryd.prog 25 #[.pointer (some ⟨B, 0, none⟩), .int .i64 k] w fun e w' => e = .returned (.bool false) ∧ w = w' := by
  have h3 : w.cell? ⟨B, 3, none⟩ = some (.int .i64 n) := hb.read 3
  clear hb
  by_cases hk : 0 ≤ k
  · have h1 : n ≤ k := by omega
    have hd : decide (k < n) = false := by simp; omega
    clear h0
    go_enter Tryd.func25, Tryd.ntmps25
    go_wp2
    go_ret
    exact ⟨rfl, rfl⟩
  · clear h0
    go_enter Tryd.func25, Tryd.ntmps25
    go_wp2
    go_ret
    exact ⟨rfl, rfl⟩

set_option maxHeartbeats 400000 in
theorem fresh_in (hb : Box w B 56 (chan m v n has t s F)) (k : Nat) (h1 : (k : Int) < n) (h2 : k < 16) :
    Calls Tryd.prog 13 #[.pointer (some ⟨B, 0, none⟩), .int .i64 k] w fun e w' => e = .returned (.bool (F k)) ∧ w = w' := by
  have h7 : w.cell? ⟨B, 7 + k, none⟩ = some (.bool (F k)) := (hb.read (7 + k)).trans (chan_at m v n has t s F k h2)
  go_enter Tryd.func13, Tryd.ntmps13
  go_wp2_with (first | (go_at_call 22; refine (isMade_any hb).mono ?_; rintro e w' ⟨rfl, rfl⟩) | (go_at_call 25; refine (isEnd_yes hb k (by omega) h1).mono ?_; rintro e w' ⟨rfl, rfl⟩))
  go_ret
  exact ⟨rfl, rfl⟩

set_option maxHeartbeats 400000 in
theorem fresh_out (hb : Box w B 56 (chan m v n has t s F)) (k : Int) (h0 : k < 0 ∨ n ≤ k) :
    Calls Tryd.prog 13 #[.pointer (some ⟨B, 0, none⟩), .int .i64 k] w fun e w' => e = .returned (.bool false) ∧ w = w' := by
  go_enter Tryd.func13, Tryd.ntmps13
  go_wp2_with (first | (go_at_call 22; refine (isMade_any hb).mono ?_; rintro e w' ⟨rfl, rfl⟩) | (go_at_call 25; refine (isEnd_no hb k h0).mono ?_; rintro e w' ⟨rfl, rfl⟩))
  go_ret
  exact ⟨rfl, rfl⟩

/-- A channel as it is made. -/
def fresh0 (_ : Nat) : Bool := false

set_option maxHeartbeats 400000 in
theorem new_ok (h0 : 1 ≤ m) (h1 : m ≤ 64) (h2 : 1 ≤ n) (h3 : n ≤ 16) (w : World) :
    Calls Tryd.prog 5 #[.int .i64 m, .int .u32 v, .int .i64 n] w fun e w' => e = .returned (.tuple #[.pointer (some ⟨w.heap.size, 0, none⟩), .int .i64 0]) ∧ w.alloc (.cells (chan m v n false 0 ⟨#[]⟩ fresh0) 56) = w' := by
  go_enter Tryd.func5, Tryd.ntmps5
  go_wp2_with (refine wpList_build_to rfl 56 _ rfl (chan m v n false 0 ⟨#[]⟩ fresh0) (by kernel_rfl) ?_)
  go_ret2
  exact ⟨rfl, rfl⟩

set_option maxHeartbeats 400000 in
theorem new_bad (h : ¬ (1 ≤ m ∧ m ≤ 64 ∧ 1 ≤ n ∧ n ≤ 16)) (w : World) :
    Calls Tryd.prog 5 #[.int .i64 m, .int .u32 v, .int .i64 n] w fun e w' => e = .returned (.tuple #[.pointer none, .int .i64 2]) ∧ w = w' := by
  by_cases q0 : 1 ≤ m
  · by_cases q1 : m ≤ 64
    · by_cases q2 : 1 ≤ n
      · have q3 : 16 < n := by omega
        clear h
        go_enter Tryd.func5, Tryd.ntmps5
        go_wp2
        go_ret2
        exact ⟨rfl, rfl⟩
      · clear h
        go_enter Tryd.func5, Tryd.ntmps5
        go_wp2
        go_ret2
        exact ⟨rfl, rfl⟩
    · clear h
      go_enter Tryd.func5, Tryd.ntmps5
      go_wp2
      go_ret2
      exact ⟨rfl, rfl⟩
  · clear h
    go_enter Tryd.func5, Tryd.ntmps5
    go_wp2
    go_ret2
    exact ⟨rfl, rfl⟩
end
end Go.Proofs.YtgicehhenahfpaaDoor
