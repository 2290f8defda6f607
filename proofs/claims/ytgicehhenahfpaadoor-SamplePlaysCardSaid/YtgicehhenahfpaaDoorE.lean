/- Some of the chapter's answers: the law's own small functions. -/
import Derived.Test.YtgicehhenahfpaaDoorD
namespace Go.Proofs.YtgicehhenahfpaaDoor
open Go.RowKit

section
variable {m v n t : Int} {has : Bool} {s : ByteArray} {F : Nat → Bool} {B : Nat} {w : World}

set_option maxHeartbeats 400000 in
theorem fails_none (hb : Box w B 56 (chan m v n false t s F)) (k : Int) (h0 : 0 ≤ k) (h1 : k < n) :
    Calls Tryd.prog 18 #[.pointer (some ⟨B, 0, none⟩), .int .i64 k, .int .i64 10] w fun e w' => e = .returned (.bool true) ∧ Below w.heap.size w w' := by
  go_enter Tryd.func18, Tryd.ntmps18
  go_wp2_with fail
  refine (read_none hb k h0 h1 0).mono ?_
  rintro e w1 ⟨rfl, d1⟩
  go_wp2_with fail
  go_ret
  exact ⟨rfl, d1.alloc d1.size _⟩

set_option maxHeartbeats 400000 in
theorem got_ok (hb : Box w B 56 (chan m v n true t s F)) (k : Nat) (h1 : (k : Int) < n) (h16 : k < 16) (x : Int) (ht0 : 0 ≤ t) (hx0 : 0 ≤ x) (hx1 : x ≤ 18446744073709551615) (hv0 : 0 ≤ v) (hv1 : v ≤ 4294967295) (a : Int) (st : Bool) (ha : ageOf t x = a) (hst : decide (v < a) = st) :
    Calls Tryd.prog 17 #[.pointer (some ⟨B, 0, none⟩), .int .i64 k, .int .u64 x, .string s, .int .u64 a, .bool st] w fun e w' => e = .returned (.bool true) ∧ Box w' B 56 (chan m v n true t s (turn F k false)) ∧ Only B w w' := by
  have HR := Lib.hid (read_ok hb k h1 h16 x ht0 hx0 hx1 hv0 hv1)
  rw [ha, hst] at HR
  clear ha hst
  go_enter Tryd.func17, Tryd.ntmps17
  go_wp2_with fail
  refine (HR.out).mono ?_
  rintro e w1 ⟨rfl, b1, d1⟩
  go_wp2_with fail
  go_ret
  exact ⟨by simp, b1.more _, d1.more _⟩

theorem fresh_to (hb : Box w B 56 (chan m v n has t s F)) (k : Nat) (K : Int) (hK : K = k) (h1 : K < n) (h2 : k < 16) (x : Bool) (hx : F k = x) :
    Calls Tryd.prog 13 #[.pointer (some ⟨B, 0, none⟩), .int .i64 K] w fun e w' => e = .returned (.bool x) ∧ w = w' := by
  subst hK hx
  exact fresh_in hb k h1 h2
theorem got_to (hb : Box w B 56 (chan m v n true t s F)) (k : Nat) (K : Int) (hK : K = k) (h1 : K < n) (h16 : k < 16) (x : Int) (ht0 : 0 ≤ t) (hx0 : 0 ≤ x) (hx1 : x ≤ 18446744073709551615) (hv0 : 0 ≤ v) (hv1 : v ≤ 4294967295) (a : Int) (st : Bool) (ha : ageOf t x = a) (hst : decide (v < a) = st) :
    Calls Tryd.prog 17 #[.pointer (some ⟨B, 0, none⟩), .int .i64 K, .int .u64 x, .string s, .int .u64 a, .bool st] w fun e w' => e = .returned (.bool true) ∧ Box w' B 56 (chan m v n true t s (turn F k false)) ∧ Only B w w' := by
  subst hK
  exact got_ok hb k h1 h16 x ht0 hx0 hx1 hv0 hv1 a st ha hst
end

set_option maxHeartbeats 1000000 in
/-- The chapter's answers hold. -/
theorem works_any (w : World) : Calls Tryd.prog 8 #[] w fun e w' => e = .returned (.bool true) ∧ Below w.heap.size w w' := by
  go_enter Tryd.func8, Tryd.ntmps8
  go_wp2_with fail
  refine (new_ok (by decide) (by decide) (by decide) (by decide) _).mono ?_
  rintro e w1 ⟨rfl, hw⟩
  have b1 : Box w1 w.heap.size 56 (chan 4 10 2 false 0 ⟨#[]⟩ fresh0) := by rw [← hw]; exact Box.made _ _ _
  have d1 : Below w.heap.size w w1 := by rw [← hw]; exact (Below.refl _ _).alloc (Nat.le_refl _) _
  clear hw
  go_wp2_with fail
  refine (fails_none b1 0 (by decide) (by decide)).mono ?_
  rintro e w2 ⟨rfl, e2⟩
  have b2 := b1.over e2 b1.inHeap
  have d2 : Below w.heap.size w w2 := d1.trans (e2.mono d1.size)
  clear b1 d1 e2
  go_wp2_with fail
  refine (fresh_to b2 0 0 rfl (by decide) (by decide) false rfl).mono ?_
  rintro e w3 ⟨rfl, rfl⟩
  go_wp2_with fail
  refine (write_long b2 7 _ (by decide)).mono ?_
  rintro e w3 ⟨rfl, rfl⟩
  go_wp2_with fail
  refine (write_ok b2 7 _ (by decide) (by decide) (by decide)).mono ?_
  rintro e w3 ⟨rfl, b3, e3⟩
  have d3 : Below w.heap.size w w3 := d2.trans (e3.below (Nat.le_refl _) d2.size)
  clear b2 d2 e3
  go_wp2_with fail
  refine (fresh_to b3 0 0 rfl (by decide) (by decide) true rfl).mono ?_
  rintro e w4 ⟨rfl, rfl⟩
  go_wp2_with fail
  refine (fresh_to b3 1 1 rfl (by decide) (by decide) true rfl).mono ?_
  rintro e w4 ⟨rfl, rfl⟩
  go_wp2_with fail
  refine (got_to b3 0 0 rfl (by decide) (by decide) 9 (by decide) (by decide) (by decide) (by decide) (by decide) 2 false rfl rfl).mono ?_
  rintro e w4 ⟨rfl, b4, e4⟩
  have d4 : Below w.heap.size w w4 := d3.trans (e4.below (Nat.le_refl _) d3.size)
  clear b3 d3 e4
  go_wp2_with fail
  refine (fresh_to b4 0 0 rfl (by decide) (by decide) false rfl).mono ?_
  rintro e w5 ⟨rfl, rfl⟩
  go_wp2_with fail
  refine (fresh_to b4 1 1 rfl (by decide) (by decide) true rfl).mono ?_
  rintro e w5 ⟨rfl, rfl⟩
  go_wp2_with fail
  go_ret
  exact ⟨rfl, d4⟩
end Go.Proofs.YtgicehhenahfpaaDoor
