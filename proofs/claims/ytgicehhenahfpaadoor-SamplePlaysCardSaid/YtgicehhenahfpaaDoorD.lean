/- What Read of a sampling channel does. -/
import Derived.Test.YtgicehhenahfpaaDoorC
namespace Go.Proofs.YtgicehhenahfpaaDoor
open Go.RowKit

/-- How old a message of the moment a is at the moment x. -/
def ageOf (a x : Int) : Int := if a < x then x - a else 0

section
variable {m v n t : Int} {has : Bool} {s : ByteArray} {F : Nat → Bool} {B : Nat} {w : World}

set_option maxHeartbeats 400000 in
theorem read_out (hb : Box w B 56 (chan m v n has t s F)) (k : Int) (h0 : k < 0 ∨ n ≤ k) (x : Int) :
    Calls Tryd.prog 20 #[.pointer (some ⟨B, 0, none⟩), .int .i64 k, .int .u64 x] w fun e w' => e = .returned (.tuple #[.agg #[.string ⟨#[]⟩, .int .u64 0, .bool false], .int .i64 2]) ∧ Below w.heap.size w w' := by
  have hb1 := hb.more (.cells #[.string ⟨#[]⟩, .int .u64 0, .bool false] 51)
  go_enter Tryd.func20, Tryd.ntmps20
  go_wp2_with (first | (go_at_call 22; refine (isMade_any hb1).mono ?_; rintro e w' ⟨rfl, rfl⟩) | (go_at_call 25; refine (isEnd_no hb1 k h0).mono ?_; rintro e w' ⟨rfl, rfl⟩))
  exact bodyPost_ret (v := .tuple #[.agg #[.string ⟨#[]⟩, .int .u64 0, .bool false], .int .i64 2]) (by simp [results, Tryd.results20, go_sem]) rfl ⟨rfl, (Below.refl _ _).alloc (Nat.le_refl _) _⟩

set_option maxHeartbeats 400000 in
theorem read_none (hb : Box w B 56 (chan m v n false t s F)) (k : Int) (h0 : 0 ≤ k) (h1 : k < n) (x : Int) :
    Calls Tryd.prog 20 #[.pointer (some ⟨B, 0, none⟩), .int .i64 k, .int .u64 x] w fun e w' => e = .returned (.tuple #[.agg #[.string ⟨#[]⟩, .int .u64 0, .bool false], .int .i64 10]) ∧ Below w.heap.size w w' := by
  have hb1 := hb.more (.cells #[.string ⟨#[]⟩, .int .u64 0, .bool false] 51)
  have h4 : (w.alloc (.cells #[.string ⟨#[]⟩, .int .u64 0, .bool false] 51)).cell? ⟨B, 4, none⟩ = some (.bool false) := hb1.read 4
  go_enter Tryd.func20, Tryd.ntmps20
  go_wp2_with (first | (go_at_call 22; refine (isMade_any hb1).mono ?_; rintro e w' ⟨rfl, rfl⟩) | (go_at_call 25; refine (isEnd_yes hb1 k h0 h1).mono ?_; rintro e w' ⟨rfl, rfl⟩))
  exact bodyPost_ret (v := .tuple #[.agg #[.string ⟨#[]⟩, .int .u64 0, .bool false], .int .i64 10]) (by simp [results, Tryd.results20, go_sem]) rfl ⟨rfl, (Below.refl _ _).alloc (Nat.le_refl _) _⟩

set_option maxHeartbeats 1000000 in
theorem read_ok (hb : Box w B 56 (chan m v n true t s F)) (k : Nat) (h1 : (k : Int) < n) (h16 : k < 16) (x : Int) (ht0 : 0 ≤ t) (hx0 : 0 ≤ x) (hx1 : x ≤ 18446744073709551615) (hv0 : 0 ≤ v) (hv1 : v ≤ 4294967295) :
    Calls Tryd.prog 20 #[.pointer (some ⟨B, 0, none⟩), .int .i64 k, .int .u64 x] w fun e w' =>
      e = .returned (.tuple #[.agg #[.string s, .int .u64 (ageOf t x), .bool (decide (v < ageOf t x))], .int .i64 0]) ∧ Box w' B 56 (chan m v n true t s (turn F k false)) ∧ Only B w w' := by
  have hb1 := hb.more (.cells #[.string ⟨#[]⟩, .int .u64 0, .bool false] 51)
  have h4 : (w.alloc (.cells #[.string ⟨#[]⟩, .int .u64 0, .bool false] 51)).cell? ⟨B, 4, none⟩ = some (.bool true) := hb1.read 4
  have h2 : (w.alloc (.cells #[.string ⟨#[]⟩, .int .u64 0, .bool false] 51)).cell? ⟨B, 2, none⟩ = some (.int .u32 v) := hb1.read 2
  have h5 : (w.alloc (.cells #[.string ⟨#[]⟩, .int .u64 0, .bool false] 51)).cell? ⟨B, 5, none⟩ = some (.int .u64 t) := hb1.read 5
  have h6 : (w.alloc (.cells #[.string ⟨#[]⟩, .int .u64 0, .bool false] 51)).cell? ⟨B, 6, none⟩ = some (.string s) := hb1.read 6
  have h7 : (w.alloc (.cells #[.string ⟨#[]⟩, .int .u64 0, .bool false] 51)).cell? ⟨B, 7 + k, none⟩ = some (.bool (F k)) := (hb1.read (7 + k)).trans (chan_at m v n true t s F k h16)
  have f7 := hb1.warm (7 + k)
  have hne : B ≠ w.heap.size := Nat.ne_of_lt hb.inHeap
  by_cases hle : t < x
  · have ha : ageOf t x = x - t := if_pos hle
    rw [ha]
    clear ha
    go_enter Tryd.func20, Tryd.ntmps20
    go_wp2_with (first | (go_at_call 22; refine (isMade_any hb1).mono ?_; rintro e w' ⟨rfl, rfl⟩) | (go_at_call 25; refine (isEnd_yes hb1 k (by omega) h1).mono ?_; rintro e w' ⟨rfl, rfl⟩))
    obtain ⟨wz, hwz⟩ : ∃ wz, wz = (w.alloc (.cells #[.string ⟨#[]⟩, .int .u64 0, .bool false] 51)).setCell ⟨B, 7 + k, none⟩ (.bool false) := ⟨_, rfl⟩
    have bz : Box wz B 56 (chan m v n true t s (turn F k false)) := by
      rw [hwz, ← chan_turn m v n true t s F false k h16]
      exact hb1.put (7 + k) (.bool false)
    have nz : Box wz w.heap.size 51 #[.string ⟨#[]⟩, .int .u64 0, .bool false] := by
      rw [hwz]
      exact (Box.made w 51 _).putFar (p := ⟨B, 7 + k, none⟩) (Ne.symm hne) _
    have dz : Only B w wz := by
      rw [hwz]
      exact ((Only.refl _ _).more _).put (by left; rfl) _
    rw [← hwz]
    clear hwz h2 h4 h5 h6 h7 f7 hb1
    have c2 : wz.cell? ⟨B, 2, none⟩ = some (.int .u32 v) := bz.read 2
    have c6 : wz.cell? ⟨B, 6, none⟩ = some (.string s) := bz.read 6
    have n0 : wz.cell? ⟨w.heap.size, 0, none⟩ = some (.string ⟨#[]⟩) := nz.read 0
    have n1 : wz.cell? ⟨w.heap.size, 1, none⟩ = some (.int .u64 0) := nz.read 1
    have n2 : wz.cell? ⟨w.heap.size, 2, none⟩ = some (.bool false) := nz.read 2
    have z0 := nz.warm 0
    have z1 := nz.warm 1
    have z2 := nz.warm 2
    go_region
    go_wp2
    refine bodyPost_ret (v := .tuple #[.agg #[.string s, .int .u64 (x - t), .bool (decide (v < x - t))], .int .i64 0]) ?_ rfl ⟨rfl, ?_, ?_⟩
    · simp [results, Tryd.results20, go_sem, n0, n1, n2]
    · exact (((bz.putFar hne _).putFar hne _).putFar hne _).drawn1
    · exact (((dz.put (by right; exact Nat.le_refl _) _).put (by right; exact Nat.le_refl _) _).put (by right; exact Nat.le_refl _) _).drawn1
  · have ha : ageOf t x = 0 := if_neg hle
    rw [ha]
    clear ha
    go_enter Tryd.func20, Tryd.ntmps20
    go_wp2_with (first | (go_at_call 22; refine (isMade_any hb1).mono ?_; rintro e w' ⟨rfl, rfl⟩) | (go_at_call 25; refine (isEnd_yes hb1 k (by omega) h1).mono ?_; rintro e w' ⟨rfl, rfl⟩))
    obtain ⟨wz, hwz⟩ : ∃ wz, wz = (w.alloc (.cells #[.string ⟨#[]⟩, .int .u64 0, .bool false] 51)).setCell ⟨B, 7 + k, none⟩ (.bool false) := ⟨_, rfl⟩
    have bz : Box wz B 56 (chan m v n true t s (turn F k false)) := by
      rw [hwz, ← chan_turn m v n true t s F false k h16]
      exact hb1.put (7 + k) (.bool false)
    have nz : Box wz w.heap.size 51 #[.string ⟨#[]⟩, .int .u64 0, .bool false] := by
      rw [hwz]
      exact (Box.made w 51 _).putFar (p := ⟨B, 7 + k, none⟩) (Ne.symm hne) _
    have dz : Only B w wz := by
      rw [hwz]
      exact ((Only.refl _ _).more _).put (by left; rfl) _
    rw [← hwz]
    clear hwz h2 h4 h5 h6 h7 f7 hb1
    have c2 : wz.cell? ⟨B, 2, none⟩ = some (.int .u32 v) := bz.read 2
    have c6 : wz.cell? ⟨B, 6, none⟩ = some (.string s) := bz.read 6
    have n0 : wz.cell? ⟨w.heap.size, 0, none⟩ = some (.string ⟨#[]⟩) := nz.read 0
    have n1 : wz.cell? ⟨w.heap.size, 1, none⟩ = some (.int .u64 0) := nz.read 1
    have n2 : wz.cell? ⟨w.heap.size, 2, none⟩ = some (.bool false) := nz.read 2
    have z0 := nz.warm 0
    have z1 := nz.warm 1
    have z2 := nz.warm 2
    go_region
    go_wp2
    refine bodyPost_ret (v := .tuple #[.agg #[.string s, .int .u64 0, .bool (decide (v < 0))], .int .i64 0]) ?_ rfl ⟨rfl, ?_, ?_⟩
    · simp [results, Tryd.results20, go_sem, n0, n1, n2]
    · exact (((bz.putFar hne _).putFar hne _).putFar hne _).drawn1
    · exact (((dz.put (by right; exact Nat.le_refl _) _).put (by right; exact Nat.le_refl _) _).put (by right; exact Nat.le_refl _) _).drawn1
end
end Go.Proofs.YtgicehhenahfpaaDoor
