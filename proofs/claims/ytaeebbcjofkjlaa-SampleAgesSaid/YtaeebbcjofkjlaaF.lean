/- SampleAges: what the law's own text does: it answers true, and writes nothing that was there. -/
import Derived.Test.YtaeebbcjofkjlaaE
namespace Go.Proofs.Ytaeebbcjofkjlaa
open Go.RowKit

section
variable {m v n t : Int} {s : ByteArray} {F : Nat → Bool} {B : Nat} {w : World}
theorem read_to (hb : Box w B 57 (chan m v n true t s F)) (k : Nat) (K : Int) (hK : K = k) (h1 : K < n) (h16 : k < 16) (x : Int) (ht0 : 0 ≤ t) (hx0 : 0 ≤ x) (hx1 : x ≤ 18446744073709551615) (hv0 : 0 ≤ v) (hv1 : v ≤ 4294967295) (a : Int) (st : Bool)
    (ha : ageOf t x = a) (hst : decide (v < a) = st) :
    Calls Try.prog 15 #[.pointer (some ⟨B, 0, none⟩), .int .i64 K, .int .u64 x] w fun e w' =>
      e = .returned (.tuple #[.agg #[.string s, .int .u64 a, .bool st], .int .i64 0]) ∧ Box w' B 57 (chan m v n true t s (turn F k false)) ∧ Only B w w' := by
  subst hK ha hst
  exact read_ok hb k h1 h16 x ht0 hx0 hx1 hv0 hv1
theorem age_up {a x : Int} (h : a < x) : ageOf a x = x - a := if_pos h
theorem age_no {a x : Int} (h : ¬ a < x) : ageOf a x = 0 := if_neg h
theorem age_top {a x : Int} (h : a ≤ x) : ageOf a x = x - a := by
  unfold ageOf
  by_cases h' : a < x
  · exact if_pos h'
  · rw [if_neg h']
    omega
end

set_option maxHeartbeats 2000000 in
set_option maxRecDepth 100000 in
theorem ages_lt (v a t0 t1 : Int) (hv0 : 0 ≤ v) (hv1 : v ≤ 4294967295) (ha0 : 0 ≤ a) (ha1 : a ≤ 18446744073709551615) (h00 : 0 ≤ t0) (h01 : t0 ≤ 18446744073709551615) (h10 : 0 ≤ t1) (h11 : t1 ≤ 18446744073709551615) (hlt : t0 < t1)
    (w : World) : Calls Try.prog 6 #[.int .u32 v, .int .u64 a, .agg #[.int .u64 t0, .int .u64 t1]] w fun e w' => e = .returned (.bool true) ∧ Below w.heap.size w w' := by
  go_enter Try.func6, Try.ntmps6
  go_wp2_with fail
  refine (new_ok (by decide) (by decide) (by decide) (by decide) _).mono ?_
  rintro e w1 ⟨rfl, hw⟩
  have b1 : Box w1 (w.heap.size + 1) 57 (chan 8 v 1 false 0 ⟨#[]⟩ fresh0) := by rw [← hw]; simpa using Box.made (w.alloc (.cells #[.int .u64 t0, .int .u64 t1] 54)) 57 (chan 8 v 1 false 0 ⟨#[]⟩ fresh0)
  have g1 : Box w1 w.heap.size 54 #[.int .u64 t0, .int .u64 t1] := by rw [← hw]; exact (Box.made _ _ _).more _
  have d1 : Below w.heap.size w w1 := by rw [← hw]; exact ((Below.refl _ _).alloc (Nat.le_refl _) _).alloc (by simp) _
  clear hw
  go_wp2_with fail
  refine (write_ok b1 a _ (by decide) (by decide) (by decide)).mono ?_
  rintro e w2 ⟨rfl, b2, e2⟩
  have g2 := g1.only e2 (by omega)
  have d2 : Below w.heap.size w w2 := d1.trans (e2.below (by omega) d1.size)
  clear b1 g1 d1 e2
  have c0 : w2.cell? ⟨w.heap.size, 0, none⟩ = some (.int .u64 t0) := g2.read 0
  have c1 : w2.cell? ⟨w.heap.size, 1, none⟩ = some (.int .u64 t1) := g2.read 1
  go_wp2_with fail
  have HT := Lib.hid (age_top ha1)
  by_cases q1 : a < t0
  · have hp := age_up q1
    have hq := age_up (show a < t1 by omega)
    have Hp := Lib.hid hp
    have Hq := Lib.hid hq
    clear hp hq
    by_cases q2 : v < t0 - a
    · have H3 := Lib.hid (show decide (v < t0 - a) = true by simpa using q2)
      have H4 := Lib.hid (show decide (v < t1 - a) = true by simp; omega)
      go_quiet (fail)
      go_wp2_with fail
      refine (read_to (b2.drawn _) 0 0 rfl (by decide) (by decide) t0 ha0 (by omega) (by omega) hv0 hv1 (t0 - a) true Hp.out H3.out).mono ?_
      rintro e w3 ⟨rfl, b3, e3⟩
      have d3 : Below w.heap.size w w3 := (below_drawn d2 _).trans (e3.below (by omega) d2.size)
      clear b2 g2 d2 c0 c1 e3
      go_wp2_with fail
      refine (read_to (b3.more _) 0 0 rfl (by decide) (by decide) t1 ha0 (by omega) (by omega) hv0 hv1 (t1 - a) true Hq.out H4.out).mono ?_
      rintro e w4 ⟨rfl, b4, e4⟩
      have d4 : Below w.heap.size w w4 := (d3.alloc d3.size _).trans (e4.below (by omega) (by have := d3.size; simp; omega))
      have x4 : Box w4 w3.heap.size 47 #[.string ⟨#[120]⟩, .int .u64 ((t0 - a)), .bool true] := (Box.made w3 47 _).only e4 (Nat.ne_of_gt b3.inHeap)
      have l4 : w3.heap.size < w4.heap.size := x4.inHeap
      have y1 : w4.cell? ⟨w3.heap.size, 1, none⟩ = some (.int .u64 ((t0 - a))) := x4.read 1
      have y2 : w4.cell? ⟨w3.heap.size, 2, none⟩ = some (.bool true) := x4.read 2
      clear b3 d3 e4 x4
      go_wp2_with fail
      have q9 : v < 18446744073709551615 - a := by omega
      have H9 := Lib.hid (show decide (v < 18446744073709551615 - a) = true by simpa using q9)
      refine (read_to (b4.more _) 0 0 rfl (by decide) (by decide) 18446744073709551615 ha0 (by decide) (by decide) hv0 hv1 (18446744073709551615 - a) true HT.out H9.out).mono ?_
      rintro e w5 ⟨rfl, b5, e5⟩
      have d5 : Below w.heap.size w w5 := (d4.alloc d4.size _).trans (e5.below (by omega) (by have := d4.size; simp; omega))
      clear b4 b5 e5 y1 y2
      go_wp2_with fail
      refine (works_any _).mono ?_
      rintro e w6 ⟨rfl, e6⟩
      go_wp2_with fail
      go_ret
      exact ⟨by first | rfl | (simp; omega), (d5.alloc d5.size _).trans (e6.mono (by have := d5.size; simp; omega))⟩
    · have H3 := Lib.hid (show decide (v < t0 - a) = false by simpa using q2)
      go_quiet (fail)
      go_wp2_with fail
      refine (read_to (b2.drawn _) 0 0 rfl (by decide) (by decide) t0 ha0 (by omega) (by omega) hv0 hv1 (t0 - a) false Hp.out H3.out).mono ?_
      rintro e w3 ⟨rfl, b3, e3⟩
      have d3 : Below w.heap.size w w3 := (below_drawn d2 _).trans (e3.below (by omega) d2.size)
      clear b2 g2 d2 c0 c1 e3
      go_wp2_with fail
      refine (read_to (b3.more _) 0 0 rfl (by decide) (by decide) t1 ha0 (by omega) (by omega) hv0 hv1 (t1 - a) (decide (v < t1 - a)) Hq.out rfl).mono ?_
      rintro e w4 ⟨rfl, b4, e4⟩
      have d4 : Below w.heap.size w w4 := (d3.alloc d3.size _).trans (e4.below (by omega) (by have := d3.size; simp; omega))
      have x4 : Box w4 w3.heap.size 47 #[.string ⟨#[120]⟩, .int .u64 ((t0 - a)), .bool false] := (Box.made w3 47 _).only e4 (Nat.ne_of_gt b3.inHeap)
      have l4 : w3.heap.size < w4.heap.size := x4.inHeap
      have y1 : w4.cell? ⟨w3.heap.size, 1, none⟩ = some (.int .u64 ((t0 - a))) := x4.read 1
      have y2 : w4.cell? ⟨w3.heap.size, 2, none⟩ = some (.bool false) := x4.read 2
      clear b3 d3 e4 x4
      go_wp2_with fail
      by_cases q9 : v < 18446744073709551615 - a
      ·   have H9 := Lib.hid (show decide (v < 18446744073709551615 - a) = true by simpa using q9)
          refine (read_to (b4.more _) 0 0 rfl (by decide) (by decide) 18446744073709551615 ha0 (by decide) (by decide) hv0 hv1 (18446744073709551615 - a) true HT.out H9.out).mono ?_
          rintro e w5 ⟨rfl, b5, e5⟩
          have d5 : Below w.heap.size w w5 := (d4.alloc d4.size _).trans (e5.below (by omega) (by have := d4.size; simp; omega))
          clear b4 b5 e5 y1 y2
          go_wp2_with fail
          refine (works_any _).mono ?_
          rintro e w6 ⟨rfl, e6⟩
          go_wp2_with fail
          go_ret
          exact ⟨by first | rfl | (simp; omega), (d5.alloc d5.size _).trans (e6.mono (by have := d5.size; simp; omega))⟩
      ·   have H9 := Lib.hid (show decide (v < 18446744073709551615 - a) = false by simpa using q9)
          refine (read_to (b4.more _) 0 0 rfl (by decide) (by decide) 18446744073709551615 ha0 (by decide) (by decide) hv0 hv1 (18446744073709551615 - a) false HT.out H9.out).mono ?_
          rintro e w5 ⟨rfl, b5, e5⟩
          have d5 : Below w.heap.size w w5 := (d4.alloc d4.size _).trans (e5.below (by omega) (by have := d4.size; simp; omega))
          clear b4 b5 e5 y1 y2
          go_wp2_with fail
          refine (works_any _).mono ?_
          rintro e w6 ⟨rfl, e6⟩
          go_wp2_with fail
          go_ret
          exact ⟨by first | rfl | (simp; omega), (d5.alloc d5.size _).trans (e6.mono (by have := d5.size; simp; omega))⟩
  · have hp := age_no q1
    have Hp := Lib.hid hp
    have H3 := Lib.hid (show decide (v < 0) = false by simp; omega)
    clear hp
    by_cases q2 : a < t1
    · have hq := age_up q2
      have Hq := Lib.hid hq
      clear hq
      by_cases q5 : a = t0
      · subst q5
        go_quiet (fail)
        go_wp2_with fail
        refine (read_to (b2.drawn _) 0 0 rfl (by decide) (by decide) a ha0 (by omega) (by omega) hv0 hv1 0 false Hp.out H3.out).mono ?_
        rintro e w3 ⟨rfl, b3, e3⟩
        have d3 : Below w.heap.size w w3 := (below_drawn d2 _).trans (e3.below (by omega) d2.size)
        clear b2 g2 d2 c0 c1 e3
        go_wp2_with fail
        refine (read_to (b3.more _) 0 0 rfl (by decide) (by decide) t1 ha0 (by omega) (by omega) hv0 hv1 (t1 - a) (decide (v < t1 - a)) Hq.out rfl).mono ?_
        rintro e w4 ⟨rfl, b4, e4⟩
        have d4 : Below w.heap.size w w4 := (d3.alloc d3.size _).trans (e4.below (by omega) (by have := d3.size; simp; omega))
        have x4 : Box w4 w3.heap.size 47 #[.string ⟨#[120]⟩, .int .u64 (0), .bool false] := (Box.made w3 47 _).only e4 (Nat.ne_of_gt b3.inHeap)
        have l4 : w3.heap.size < w4.heap.size := x4.inHeap
        have y1 : w4.cell? ⟨w3.heap.size, 1, none⟩ = some (.int .u64 (0)) := x4.read 1
        have y2 : w4.cell? ⟨w3.heap.size, 2, none⟩ = some (.bool false) := x4.read 2
        clear b3 d3 e4 x4
        go_wp2_with fail
        by_cases q9 : v < 18446744073709551615 - a
        ·   have H9 := Lib.hid (show decide (v < 18446744073709551615 - a) = true by simpa using q9)
            refine (read_to (b4.more _) 0 0 rfl (by decide) (by decide) 18446744073709551615 ha0 (by decide) (by decide) hv0 hv1 (18446744073709551615 - a) true HT.out H9.out).mono ?_
            rintro e w5 ⟨rfl, b5, e5⟩
            have d5 : Below w.heap.size w w5 := (d4.alloc d4.size _).trans (e5.below (by omega) (by have := d4.size; simp; omega))
            clear b4 b5 e5 y1 y2
            go_wp2_with fail
            refine (works_any _).mono ?_
            rintro e w6 ⟨rfl, e6⟩
            go_wp2_with fail
            go_ret
            exact ⟨by first | rfl | (simp; omega), (d5.alloc d5.size _).trans (e6.mono (by have := d5.size; simp; omega))⟩
        ·   have H9 := Lib.hid (show decide (v < 18446744073709551615 - a) = false by simpa using q9)
            refine (read_to (b4.more _) 0 0 rfl (by decide) (by decide) 18446744073709551615 ha0 (by decide) (by decide) hv0 hv1 (18446744073709551615 - a) false HT.out H9.out).mono ?_
            rintro e w5 ⟨rfl, b5, e5⟩
            have d5 : Below w.heap.size w w5 := (d4.alloc d4.size _).trans (e5.below (by omega) (by have := d4.size; simp; omega))
            clear b4 b5 e5 y1 y2
            go_wp2_with fail
            refine (works_any _).mono ?_
            rintro e w6 ⟨rfl, e6⟩
            go_wp2_with fail
            go_ret
            exact ⟨by first | rfl | (simp; omega), (d5.alloc d5.size _).trans (e6.mono (by have := d5.size; simp; omega))⟩
      · have q6 : t0 < a := by omega
        go_quiet (fail)
        go_wp2_with fail
        refine (read_to (b2.drawn _) 0 0 rfl (by decide) (by decide) t0 ha0 (by omega) (by omega) hv0 hv1 0 false Hp.out H3.out).mono ?_
        rintro e w3 ⟨rfl, b3, e3⟩
        have d3 : Below w.heap.size w w3 := (below_drawn d2 _).trans (e3.below (by omega) d2.size)
        clear b2 g2 d2 c0 c1 e3
        go_wp2_with fail
        refine (read_to (b3.more _) 0 0 rfl (by decide) (by decide) t1 ha0 (by omega) (by omega) hv0 hv1 (t1 - a) (decide (v < t1 - a)) Hq.out rfl).mono ?_
        rintro e w4 ⟨rfl, b4, e4⟩
        have d4 : Below w.heap.size w w4 := (d3.alloc d3.size _).trans (e4.below (by omega) (by have := d3.size; simp; omega))
        have x4 : Box w4 w3.heap.size 47 #[.string ⟨#[120]⟩, .int .u64 (0), .bool false] := (Box.made w3 47 _).only e4 (Nat.ne_of_gt b3.inHeap)
        have l4 : w3.heap.size < w4.heap.size := x4.inHeap
        have y1 : w4.cell? ⟨w3.heap.size, 1, none⟩ = some (.int .u64 (0)) := x4.read 1
        have y2 : w4.cell? ⟨w3.heap.size, 2, none⟩ = some (.bool false) := x4.read 2
        clear b3 d3 e4 x4
        go_wp2_with fail
        by_cases q9 : v < 18446744073709551615 - a
        ·   have H9 := Lib.hid (show decide (v < 18446744073709551615 - a) = true by simpa using q9)
            refine (read_to (b4.more _) 0 0 rfl (by decide) (by decide) 18446744073709551615 ha0 (by decide) (by decide) hv0 hv1 (18446744073709551615 - a) true HT.out H9.out).mono ?_
            rintro e w5 ⟨rfl, b5, e5⟩
            have d5 : Below w.heap.size w w5 := (d4.alloc d4.size _).trans (e5.below (by omega) (by have := d4.size; simp; omega))
            clear b4 b5 e5 y1 y2
            go_wp2_with fail
            refine (works_any _).mono ?_
            rintro e w6 ⟨rfl, e6⟩
            go_wp2_with fail
            go_ret
            exact ⟨by first | rfl | (simp; omega), (d5.alloc d5.size _).trans (e6.mono (by have := d5.size; simp; omega))⟩
        ·   have H9 := Lib.hid (show decide (v < 18446744073709551615 - a) = false by simpa using q9)
            refine (read_to (b4.more _) 0 0 rfl (by decide) (by decide) 18446744073709551615 ha0 (by decide) (by decide) hv0 hv1 (18446744073709551615 - a) false HT.out H9.out).mono ?_
            rintro e w5 ⟨rfl, b5, e5⟩
            have d5 : Below w.heap.size w w5 := (d4.alloc d4.size _).trans (e5.below (by omega) (by have := d4.size; simp; omega))
            clear b4 b5 e5 y1 y2
            go_wp2_with fail
            refine (works_any _).mono ?_
            rintro e w6 ⟨rfl, e6⟩
            go_wp2_with fail
            go_ret
            exact ⟨by first | rfl | (simp; omega), (d5.alloc d5.size _).trans (e6.mono (by have := d5.size; simp; omega))⟩
    · have hq := age_no q2
      have Hq := Lib.hid hq
      clear hq
      go_quiet (fail)
      go_wp2_with fail
      refine (read_to (b2.drawn _) 0 0 rfl (by decide) (by decide) t0 ha0 (by omega) (by omega) hv0 hv1 0 false Hp.out H3.out).mono ?_
      rintro e w3 ⟨rfl, b3, e3⟩
      have d3 : Below w.heap.size w w3 := (below_drawn d2 _).trans (e3.below (by omega) d2.size)
      clear b2 g2 d2 c0 c1 e3
      go_wp2_with fail
      refine (read_to (b3.more _) 0 0 rfl (by decide) (by decide) t1 ha0 (by omega) (by omega) hv0 hv1 0 false Hq.out H3.out).mono ?_
      rintro e w4 ⟨rfl, b4, e4⟩
      have d4 : Below w.heap.size w w4 := (d3.alloc d3.size _).trans (e4.below (by omega) (by have := d3.size; simp; omega))
      have x4 : Box w4 w3.heap.size 47 #[.string ⟨#[120]⟩, .int .u64 (0), .bool false] := (Box.made w3 47 _).only e4 (Nat.ne_of_gt b3.inHeap)
      have l4 : w3.heap.size < w4.heap.size := x4.inHeap
      have y1 : w4.cell? ⟨w3.heap.size, 1, none⟩ = some (.int .u64 (0)) := x4.read 1
      have y2 : w4.cell? ⟨w3.heap.size, 2, none⟩ = some (.bool false) := x4.read 2
      clear b3 d3 e4 x4
      go_wp2_with fail
      by_cases q9 : v < 18446744073709551615 - a
      ·   have H9 := Lib.hid (show decide (v < 18446744073709551615 - a) = true by simpa using q9)
          refine (read_to (b4.more _) 0 0 rfl (by decide) (by decide) 18446744073709551615 ha0 (by decide) (by decide) hv0 hv1 (18446744073709551615 - a) true HT.out H9.out).mono ?_
          rintro e w5 ⟨rfl, b5, e5⟩
          have d5 : Below w.heap.size w w5 := (d4.alloc d4.size _).trans (e5.below (by omega) (by have := d4.size; simp; omega))
          clear b4 b5 e5 y1 y2
          go_wp2_with fail
          refine (works_any _).mono ?_
          rintro e w6 ⟨rfl, e6⟩
          go_wp2_with fail
          go_ret
          exact ⟨by first | rfl | (simp; omega), (d5.alloc d5.size _).trans (e6.mono (by have := d5.size; simp; omega))⟩
      ·   have H9 := Lib.hid (show decide (v < 18446744073709551615 - a) = false by simpa using q9)
          refine (read_to (b4.more _) 0 0 rfl (by decide) (by decide) 18446744073709551615 ha0 (by decide) (by decide) hv0 hv1 (18446744073709551615 - a) false HT.out H9.out).mono ?_
          rintro e w5 ⟨rfl, b5, e5⟩
          have d5 : Below w.heap.size w w5 := (d4.alloc d4.size _).trans (e5.below (by omega) (by have := d4.size; simp; omega))
          clear b4 b5 e5 y1 y2
          go_wp2_with fail
          refine (works_any _).mono ?_
          rintro e w6 ⟨rfl, e6⟩
          go_wp2_with fail
          go_ret
          exact ⟨by first | rfl | (simp; omega), (d5.alloc d5.size _).trans (e6.mono (by have := d5.size; simp; omega))⟩

set_option maxHeartbeats 2000000 in
set_option maxRecDepth 100000 in
theorem ages_gt (v a t0 t1 : Int) (hv0 : 0 ≤ v) (hv1 : v ≤ 4294967295) (ha0 : 0 ≤ a) (ha1 : a ≤ 18446744073709551615) (h00 : 0 ≤ t0) (h01 : t0 ≤ 18446744073709551615) (h10 : 0 ≤ t1) (h11 : t1 ≤ 18446744073709551615) (hlt : t1 < t0)
    (w : World) : Calls Try.prog 6 #[.int .u32 v, .int .u64 a, .agg #[.int .u64 t0, .int .u64 t1]] w fun e w' => e = .returned (.bool true) ∧ Below w.heap.size w w' := by
  go_enter Try.func6, Try.ntmps6
  go_wp2_with fail
  refine (new_ok (by decide) (by decide) (by decide) (by decide) _).mono ?_
  rintro e w1 ⟨rfl, hw⟩
  have b1 : Box w1 (w.heap.size + 1) 57 (chan 8 v 1 false 0 ⟨#[]⟩ fresh0) := by rw [← hw]; simpa using Box.made (w.alloc (.cells #[.int .u64 t0, .int .u64 t1] 54)) 57 (chan 8 v 1 false 0 ⟨#[]⟩ fresh0)
  have g1 : Box w1 w.heap.size 54 #[.int .u64 t0, .int .u64 t1] := by rw [← hw]; exact (Box.made _ _ _).more _
  have d1 : Below w.heap.size w w1 := by rw [← hw]; exact ((Below.refl _ _).alloc (Nat.le_refl _) _).alloc (by simp) _
  clear hw
  go_wp2_with fail
  refine (write_ok b1 a _ (by decide) (by decide) (by decide)).mono ?_
  rintro e w2 ⟨rfl, b2, e2⟩
  have g2 := g1.only e2 (by omega)
  have d2 : Below w.heap.size w w2 := d1.trans (e2.below (by omega) d1.size)
  clear b1 g1 d1 e2
  have c0 : w2.cell? ⟨w.heap.size, 0, none⟩ = some (.int .u64 t0) := g2.read 0
  have c1 : w2.cell? ⟨w.heap.size, 1, none⟩ = some (.int .u64 t1) := g2.read 1
  go_wp2_with fail
  have HT := Lib.hid (age_top ha1)
  by_cases q1 : a < t1
  · have hp := age_up q1
    have hq := age_up (show a < t0 by omega)
    have Hp := Lib.hid hp
    have Hq := Lib.hid hq
    clear hp hq
    by_cases q2 : v < t1 - a
    · have H3 := Lib.hid (show decide (v < t1 - a) = true by simpa using q2)
      have H4 := Lib.hid (show decide (v < t0 - a) = true by simp; omega)
      go_quiet (fail)
      go_wp2_with fail
      refine (read_to (b2.drawn _) 0 0 rfl (by decide) (by decide) t1 ha0 (by omega) (by omega) hv0 hv1 (t1 - a) true Hp.out H3.out).mono ?_
      rintro e w3 ⟨rfl, b3, e3⟩
      have d3 : Below w.heap.size w w3 := (below_drawn d2 _).trans (e3.below (by omega) d2.size)
      clear b2 g2 d2 c0 c1 e3
      go_wp2_with fail
      refine (read_to (b3.more _) 0 0 rfl (by decide) (by decide) t0 ha0 (by omega) (by omega) hv0 hv1 (t0 - a) true Hq.out H4.out).mono ?_
      rintro e w4 ⟨rfl, b4, e4⟩
      have d4 : Below w.heap.size w w4 := (d3.alloc d3.size _).trans (e4.below (by omega) (by have := d3.size; simp; omega))
      have x4 : Box w4 w3.heap.size 47 #[.string ⟨#[120]⟩, .int .u64 ((t1 - a)), .bool true] := (Box.made w3 47 _).only e4 (Nat.ne_of_gt b3.inHeap)
      have l4 : w3.heap.size < w4.heap.size := x4.inHeap
      have y1 : w4.cell? ⟨w3.heap.size, 1, none⟩ = some (.int .u64 ((t1 - a))) := x4.read 1
      have y2 : w4.cell? ⟨w3.heap.size, 2, none⟩ = some (.bool true) := x4.read 2
      clear b3 d3 e4 x4
      go_wp2_with fail
      have q9 : v < 18446744073709551615 - a := by omega
      have H9 := Lib.hid (show decide (v < 18446744073709551615 - a) = true by simpa using q9)
      refine (read_to (b4.more _) 0 0 rfl (by decide) (by decide) 18446744073709551615 ha0 (by decide) (by decide) hv0 hv1 (18446744073709551615 - a) true HT.out H9.out).mono ?_
      rintro e w5 ⟨rfl, b5, e5⟩
      have d5 : Below w.heap.size w w5 := (d4.alloc d4.size _).trans (e5.below (by omega) (by have := d4.size; simp; omega))
      clear b4 b5 e5 y1 y2
      go_wp2_with fail
      refine (works_any _).mono ?_
      rintro e w6 ⟨rfl, e6⟩
      go_wp2_with fail
      go_ret
      exact ⟨by first | rfl | (simp; omega), (d5.alloc d5.size _).trans (e6.mono (by have := d5.size; simp; omega))⟩
    · have H3 := Lib.hid (show decide (v < t1 - a) = false by simpa using q2)
      go_quiet (fail)
      go_wp2_with fail
      refine (read_to (b2.drawn _) 0 0 rfl (by decide) (by decide) t1 ha0 (by omega) (by omega) hv0 hv1 (t1 - a) false Hp.out H3.out).mono ?_
      rintro e w3 ⟨rfl, b3, e3⟩
      have d3 : Below w.heap.size w w3 := (below_drawn d2 _).trans (e3.below (by omega) d2.size)
      clear b2 g2 d2 c0 c1 e3
      go_wp2_with fail
      refine (read_to (b3.more _) 0 0 rfl (by decide) (by decide) t0 ha0 (by omega) (by omega) hv0 hv1 (t0 - a) (decide (v < t0 - a)) Hq.out rfl).mono ?_
      rintro e w4 ⟨rfl, b4, e4⟩
      have d4 : Below w.heap.size w w4 := (d3.alloc d3.size _).trans (e4.below (by omega) (by have := d3.size; simp; omega))
      have x4 : Box w4 w3.heap.size 47 #[.string ⟨#[120]⟩, .int .u64 ((t1 - a)), .bool false] := (Box.made w3 47 _).only e4 (Nat.ne_of_gt b3.inHeap)
      have l4 : w3.heap.size < w4.heap.size := x4.inHeap
      have y1 : w4.cell? ⟨w3.heap.size, 1, none⟩ = some (.int .u64 ((t1 - a))) := x4.read 1
      have y2 : w4.cell? ⟨w3.heap.size, 2, none⟩ = some (.bool false) := x4.read 2
      clear b3 d3 e4 x4
      go_wp2_with fail
      by_cases q9 : v < 18446744073709551615 - a
      ·   have H9 := Lib.hid (show decide (v < 18446744073709551615 - a) = true by simpa using q9)
          refine (read_to (b4.more _) 0 0 rfl (by decide) (by decide) 18446744073709551615 ha0 (by decide) (by decide) hv0 hv1 (18446744073709551615 - a) true HT.out H9.out).mono ?_
          rintro e w5 ⟨rfl, b5, e5⟩
          have d5 : Below w.heap.size w w5 := (d4.alloc d4.size _).trans (e5.below (by omega) (by have := d4.size; simp; omega))
          clear b4 b5 e5 y1 y2
          go_wp2_with fail
          refine (works_any _).mono ?_
          rintro e w6 ⟨rfl, e6⟩
          go_wp2_with fail
          go_ret
          exact ⟨by first | rfl | (simp; omega), (d5.alloc d5.size _).trans (e6.mono (by have := d5.size; simp; omega))⟩
      ·   have H9 := Lib.hid (show decide (v < 18446744073709551615 - a) = false by simpa using q9)
          refine (read_to (b4.more _) 0 0 rfl (by decide) (by decide) 18446744073709551615 ha0 (by decide) (by decide) hv0 hv1 (18446744073709551615 - a) false HT.out H9.out).mono ?_
          rintro e w5 ⟨rfl, b5, e5⟩
          have d5 : Below w.heap.size w w5 := (d4.alloc d4.size _).trans (e5.below (by omega) (by have := d4.size; simp; omega))
          clear b4 b5 e5 y1 y2
          go_wp2_with fail
          refine (works_any _).mono ?_
          rintro e w6 ⟨rfl, e6⟩
          go_wp2_with fail
          go_ret
          exact ⟨by first | rfl | (simp; omega), (d5.alloc d5.size _).trans (e6.mono (by have := d5.size; simp; omega))⟩
  · have hp := age_no q1
    have Hp := Lib.hid hp
    have H3 := Lib.hid (show decide (v < 0) = false by simp; omega)
    clear hp
    by_cases q2 : a < t0
    · have hq := age_up q2
      have Hq := Lib.hid hq
      clear hq
      by_cases q5 : a = t1
      · subst q5
        go_quiet (fail)
        go_wp2_with fail
        refine (read_to (b2.drawn _) 0 0 rfl (by decide) (by decide) a ha0 (by omega) (by omega) hv0 hv1 0 false Hp.out H3.out).mono ?_
        rintro e w3 ⟨rfl, b3, e3⟩
        have d3 : Below w.heap.size w w3 := (below_drawn d2 _).trans (e3.below (by omega) d2.size)
        clear b2 g2 d2 c0 c1 e3
        go_wp2_with fail
        refine (read_to (b3.more _) 0 0 rfl (by decide) (by decide) t0 ha0 (by omega) (by omega) hv0 hv1 (t0 - a) (decide (v < t0 - a)) Hq.out rfl).mono ?_
        rintro e w4 ⟨rfl, b4, e4⟩
        have d4 : Below w.heap.size w w4 := (d3.alloc d3.size _).trans (e4.below (by omega) (by have := d3.size; simp; omega))
        have x4 : Box w4 w3.heap.size 47 #[.string ⟨#[120]⟩, .int .u64 (0), .bool false] := (Box.made w3 47 _).only e4 (Nat.ne_of_gt b3.inHeap)
        have l4 : w3.heap.size < w4.heap.size := x4.inHeap
        have y1 : w4.cell? ⟨w3.heap.size, 1, none⟩ = some (.int .u64 (0)) := x4.read 1
        have y2 : w4.cell? ⟨w3.heap.size, 2, none⟩ = some (.bool false) := x4.read 2
        clear b3 d3 e4 x4
        go_wp2_with fail
        by_cases q9 : v < 18446744073709551615 - a
        ·   have H9 := Lib.hid (show decide (v < 18446744073709551615 - a) = true by simpa using q9)
            refine (read_to (b4.more _) 0 0 rfl (by decide) (by decide) 18446744073709551615 ha0 (by decide) (by decide) hv0 hv1 (18446744073709551615 - a) true HT.out H9.out).mono ?_
            rintro e w5 ⟨rfl, b5, e5⟩
            have d5 : Below w.heap.size w w5 := (d4.alloc d4.size _).trans (e5.below (by omega) (by have := d4.size; simp; omega))
            clear b4 b5 e5 y1 y2
            go_wp2_with fail
            refine (works_any _).mono ?_
            rintro e w6 ⟨rfl, e6⟩
            go_wp2_with fail
            go_ret
            exact ⟨by first | rfl | (simp; omega), (d5.alloc d5.size _).trans (e6.mono (by have := d5.size; simp; omega))⟩
        ·   have H9 := Lib.hid (show decide (v < 18446744073709551615 - a) = false by simpa using q9)
            refine (read_to (b4.more _) 0 0 rfl (by decide) (by decide) 18446744073709551615 ha0 (by decide) (by decide) hv0 hv1 (18446744073709551615 - a) false HT.out H9.out).mono ?_
            rintro e w5 ⟨rfl, b5, e5⟩
            have d5 : Below w.heap.size w w5 := (d4.alloc d4.size _).trans (e5.below (by omega) (by have := d4.size; simp; omega))
            clear b4 b5 e5 y1 y2
            go_wp2_with fail
            refine (works_any _).mono ?_
            rintro e w6 ⟨rfl, e6⟩
            go_wp2_with fail
            go_ret
            exact ⟨by first | rfl | (simp; omega), (d5.alloc d5.size _).trans (e6.mono (by have := d5.size; simp; omega))⟩
      · have q6 : t1 < a := by omega
        go_quiet (fail)
        go_wp2_with fail
        refine (read_to (b2.drawn _) 0 0 rfl (by decide) (by decide) t1 ha0 (by omega) (by omega) hv0 hv1 0 false Hp.out H3.out).mono ?_
        rintro e w3 ⟨rfl, b3, e3⟩
        have d3 : Below w.heap.size w w3 := (below_drawn d2 _).trans (e3.below (by omega) d2.size)
        clear b2 g2 d2 c0 c1 e3
        go_wp2_with fail
        refine (read_to (b3.more _) 0 0 rfl (by decide) (by decide) t0 ha0 (by omega) (by omega) hv0 hv1 (t0 - a) (decide (v < t0 - a)) Hq.out rfl).mono ?_
        rintro e w4 ⟨rfl, b4, e4⟩
        have d4 : Below w.heap.size w w4 := (d3.alloc d3.size _).trans (e4.below (by omega) (by have := d3.size; simp; omega))
        have x4 : Box w4 w3.heap.size 47 #[.string ⟨#[120]⟩, .int .u64 (0), .bool false] := (Box.made w3 47 _).only e4 (Nat.ne_of_gt b3.inHeap)
        have l4 : w3.heap.size < w4.heap.size := x4.inHeap
        have y1 : w4.cell? ⟨w3.heap.size, 1, none⟩ = some (.int .u64 (0)) := x4.read 1
        have y2 : w4.cell? ⟨w3.heap.size, 2, none⟩ = some (.bool false) := x4.read 2
        clear b3 d3 e4 x4
        go_wp2_with fail
        by_cases q9 : v < 18446744073709551615 - a
        ·   have H9 := Lib.hid (show decide (v < 18446744073709551615 - a) = true by simpa using q9)
            refine (read_to (b4.more _) 0 0 rfl (by decide) (by decide) 18446744073709551615 ha0 (by decide) (by decide) hv0 hv1 (18446744073709551615 - a) true HT.out H9.out).mono ?_
            rintro e w5 ⟨rfl, b5, e5⟩
            have d5 : Below w.heap.size w w5 := (d4.alloc d4.size _).trans (e5.below (by omega) (by have := d4.size; simp; omega))
            clear b4 b5 e5 y1 y2
            go_wp2_with fail
            refine (works_any _).mono ?_
            rintro e w6 ⟨rfl, e6⟩
            go_wp2_with fail
            go_ret
            exact ⟨by first | rfl | (simp; omega), (d5.alloc d5.size _).trans (e6.mono (by have := d5.size; simp; omega))⟩
        ·   have H9 := Lib.hid (show decide (v < 18446744073709551615 - a) = false by simpa using q9)
            refine (read_to (b4.more _) 0 0 rfl (by decide) (by decide) 18446744073709551615 ha0 (by decide) (by decide) hv0 hv1 (18446744073709551615 - a) false HT.out H9.out).mono ?_
            rintro e w5 ⟨rfl, b5, e5⟩
            have d5 : Below w.heap.size w w5 := (d4.alloc d4.size _).trans (e5.below (by omega) (by have := d4.size; simp; omega))
            clear b4 b5 e5 y1 y2
            go_wp2_with fail
            refine (works_any _).mono ?_
            rintro e w6 ⟨rfl, e6⟩
            go_wp2_with fail
            go_ret
            exact ⟨by first | rfl | (simp; omega), (d5.alloc d5.size _).trans (e6.mono (by have := d5.size; simp; omega))⟩
    · have hq := age_no q2
      have Hq := Lib.hid hq
      clear hq
      go_quiet (fail)
      go_wp2_with fail
      refine (read_to (b2.drawn _) 0 0 rfl (by decide) (by decide) t1 ha0 (by omega) (by omega) hv0 hv1 0 false Hp.out H3.out).mono ?_
      rintro e w3 ⟨rfl, b3, e3⟩
      have d3 : Below w.heap.size w w3 := (below_drawn d2 _).trans (e3.below (by omega) d2.size)
      clear b2 g2 d2 c0 c1 e3
      go_wp2_with fail
      refine (read_to (b3.more _) 0 0 rfl (by decide) (by decide) t0 ha0 (by omega) (by omega) hv0 hv1 0 false Hq.out H3.out).mono ?_
      rintro e w4 ⟨rfl, b4, e4⟩
      have d4 : Below w.heap.size w w4 := (d3.alloc d3.size _).trans (e4.below (by omega) (by have := d3.size; simp; omega))
      have x4 : Box w4 w3.heap.size 47 #[.string ⟨#[120]⟩, .int .u64 (0), .bool false] := (Box.made w3 47 _).only e4 (Nat.ne_of_gt b3.inHeap)
      have l4 : w3.heap.size < w4.heap.size := x4.inHeap
      have y1 : w4.cell? ⟨w3.heap.size, 1, none⟩ = some (.int .u64 (0)) := x4.read 1
      have y2 : w4.cell? ⟨w3.heap.size, 2, none⟩ = some (.bool false) := x4.read 2
      clear b3 d3 e4 x4
      go_wp2_with fail
      by_cases q9 : v < 18446744073709551615 - a
      ·   have H9 := Lib.hid (show decide (v < 18446744073709551615 - a) = true by simpa using q9)
          refine (read_to (b4.more _) 0 0 rfl (by decide) (by decide) 18446744073709551615 ha0 (by decide) (by decide) hv0 hv1 (18446744073709551615 - a) true HT.out H9.out).mono ?_
          rintro e w5 ⟨rfl, b5, e5⟩
          have d5 : Below w.heap.size w w5 := (d4.alloc d4.size _).trans (e5.below (by omega) (by have := d4.size; simp; omega))
          clear b4 b5 e5 y1 y2
          go_wp2_with fail
          refine (works_any _).mono ?_
          rintro e w6 ⟨rfl, e6⟩
          go_wp2_with fail
          go_ret
          exact ⟨by first | rfl | (simp; omega), (d5.alloc d5.size _).trans (e6.mono (by have := d5.size; simp; omega))⟩
      ·   have H9 := Lib.hid (show decide (v < 18446744073709551615 - a) = false by simpa using q9)
          refine (read_to (b4.more _) 0 0 rfl (by decide) (by decide) 18446744073709551615 ha0 (by decide) (by decide) hv0 hv1 (18446744073709551615 - a) false HT.out H9.out).mono ?_
          rintro e w5 ⟨rfl, b5, e5⟩
          have d5 : Below w.heap.size w w5 := (d4.alloc d4.size _).trans (e5.below (by omega) (by have := d4.size; simp; omega))
          clear b4 b5 e5 y1 y2
          go_wp2_with fail
          refine (works_any _).mono ?_
          rintro e w6 ⟨rfl, e6⟩
          go_wp2_with fail
          go_ret
          exact ⟨by first | rfl | (simp; omega), (d5.alloc d5.size _).trans (e6.mono (by have := d5.size; simp; omega))⟩

set_option maxHeartbeats 2000000 in
set_option maxRecDepth 100000 in
theorem ages_eq (v a t0 : Int) (hv0 : 0 ≤ v) (hv1 : v ≤ 4294967295) (ha0 : 0 ≤ a) (ha1 : a ≤ 18446744073709551615) (h00 : 0 ≤ t0) (h01 : t0 ≤ 18446744073709551615)
    (w : World) : Calls Try.prog 6 #[.int .u32 v, .int .u64 a, .agg #[.int .u64 t0, .int .u64 t0]] w fun e w' => e = .returned (.bool true) ∧ Below w.heap.size w w' := by
  go_enter Try.func6, Try.ntmps6
  go_wp2_with fail
  refine (new_ok (by decide) (by decide) (by decide) (by decide) _).mono ?_
  rintro e w1 ⟨rfl, hw⟩
  have b1 : Box w1 (w.heap.size + 1) 57 (chan 8 v 1 false 0 ⟨#[]⟩ fresh0) := by rw [← hw]; simpa using Box.made (w.alloc (.cells #[.int .u64 t0, .int .u64 t0] 54)) 57 (chan 8 v 1 false 0 ⟨#[]⟩ fresh0)
  have g1 : Box w1 w.heap.size 54 #[.int .u64 t0, .int .u64 t0] := by rw [← hw]; exact (Box.made _ _ _).more _
  have d1 : Below w.heap.size w w1 := by rw [← hw]; exact ((Below.refl _ _).alloc (Nat.le_refl _) _).alloc (by simp) _
  clear hw
  go_wp2_with fail
  refine (write_ok b1 a _ (by decide) (by decide) (by decide)).mono ?_
  rintro e w2 ⟨rfl, b2, e2⟩
  have g2 := g1.only e2 (by omega)
  have d2 : Below w.heap.size w w2 := d1.trans (e2.below (by omega) d1.size)
  clear b1 g1 d1 e2
  have c0 : w2.cell? ⟨w.heap.size, 0, none⟩ = some (.int .u64 t0) := g2.read 0
  have c1 : w2.cell? ⟨w.heap.size, 1, none⟩ = some (.int .u64 t0) := g2.read 1
  go_wp2_with fail
  have HT := Lib.hid (age_top ha1)
  by_cases q1 : a < t0
  · have hp := age_up q1
    have Hp := Lib.hid hp
    clear hp
    by_cases q2 : v < t0 - a
    · have H3 := Lib.hid (show decide (v < t0 - a) = true by simpa using q2)
      go_quiet (fail)
      go_wp2_with fail
      refine (read_to (b2.drawn _) 0 0 rfl (by decide) (by decide) t0 ha0 (by omega) (by omega) hv0 hv1 (t0 - a) true Hp.out H3.out).mono ?_
      rintro e w3 ⟨rfl, b3, e3⟩
      have d3 : Below w.heap.size w w3 := (below_drawn d2 _).trans (e3.below (by omega) d2.size)
      clear b2 g2 d2 c0 c1 e3
      go_wp2_with fail
      refine (read_to (b3.more _) 0 0 rfl (by decide) (by decide) t0 ha0 (by omega) (by omega) hv0 hv1 (t0 - a) true Hp.out H3.out).mono ?_
      rintro e w4 ⟨rfl, b4, e4⟩
      have d4 : Below w.heap.size w w4 := (d3.alloc d3.size _).trans (e4.below (by omega) (by have := d3.size; simp; omega))
      have x4 : Box w4 w3.heap.size 47 #[.string ⟨#[120]⟩, .int .u64 ((t0 - a)), .bool true] := (Box.made w3 47 _).only e4 (Nat.ne_of_gt b3.inHeap)
      have l4 : w3.heap.size < w4.heap.size := x4.inHeap
      have y1 : w4.cell? ⟨w3.heap.size, 1, none⟩ = some (.int .u64 ((t0 - a))) := x4.read 1
      have y2 : w4.cell? ⟨w3.heap.size, 2, none⟩ = some (.bool true) := x4.read 2
      clear b3 d3 e4 x4
      go_wp2_with fail
      have q9 : v < 18446744073709551615 - a := by omega
      have H9 := Lib.hid (show decide (v < 18446744073709551615 - a) = true by simpa using q9)
      refine (read_to (b4.more _) 0 0 rfl (by decide) (by decide) 18446744073709551615 ha0 (by decide) (by decide) hv0 hv1 (18446744073709551615 - a) true HT.out H9.out).mono ?_
      rintro e w5 ⟨rfl, b5, e5⟩
      have d5 : Below w.heap.size w w5 := (d4.alloc d4.size _).trans (e5.below (by omega) (by have := d4.size; simp; omega))
      clear b4 b5 e5 y1 y2
      go_wp2_with fail
      refine (works_any _).mono ?_
      rintro e w6 ⟨rfl, e6⟩
      go_wp2_with fail
      go_ret
      exact ⟨by first | rfl | (simp; omega), (d5.alloc d5.size _).trans (e6.mono (by have := d5.size; simp; omega))⟩
    · have H3 := Lib.hid (show decide (v < t0 - a) = false by simpa using q2)
      go_quiet (fail)
      go_wp2_with fail
      refine (read_to (b2.drawn _) 0 0 rfl (by decide) (by decide) t0 ha0 (by omega) (by omega) hv0 hv1 (t0 - a) false Hp.out H3.out).mono ?_
      rintro e w3 ⟨rfl, b3, e3⟩
      have d3 : Below w.heap.size w w3 := (below_drawn d2 _).trans (e3.below (by omega) d2.size)
      clear b2 g2 d2 c0 c1 e3
      go_wp2_with fail
      refine (read_to (b3.more _) 0 0 rfl (by decide) (by decide) t0 ha0 (by omega) (by omega) hv0 hv1 (t0 - a) false Hp.out H3.out).mono ?_
      rintro e w4 ⟨rfl, b4, e4⟩
      have d4 : Below w.heap.size w w4 := (d3.alloc d3.size _).trans (e4.below (by omega) (by have := d3.size; simp; omega))
      have x4 : Box w4 w3.heap.size 47 #[.string ⟨#[120]⟩, .int .u64 ((t0 - a)), .bool false] := (Box.made w3 47 _).only e4 (Nat.ne_of_gt b3.inHeap)
      have l4 : w3.heap.size < w4.heap.size := x4.inHeap
      have y1 : w4.cell? ⟨w3.heap.size, 1, none⟩ = some (.int .u64 ((t0 - a))) := x4.read 1
      have y2 : w4.cell? ⟨w3.heap.size, 2, none⟩ = some (.bool false) := x4.read 2
      clear b3 d3 e4 x4
      go_wp2_with fail
      by_cases q9 : v < 18446744073709551615 - a
      ·   have H9 := Lib.hid (show decide (v < 18446744073709551615 - a) = true by simpa using q9)
          refine (read_to (b4.more _) 0 0 rfl (by decide) (by decide) 18446744073709551615 ha0 (by decide) (by decide) hv0 hv1 (18446744073709551615 - a) true HT.out H9.out).mono ?_
          rintro e w5 ⟨rfl, b5, e5⟩
          have d5 : Below w.heap.size w w5 := (d4.alloc d4.size _).trans (e5.below (by omega) (by have := d4.size; simp; omega))
          clear b4 b5 e5 y1 y2
          go_wp2_with fail
          refine (works_any _).mono ?_
          rintro e w6 ⟨rfl, e6⟩
          go_wp2_with fail
          go_ret
          exact ⟨by first | rfl | (simp; omega), (d5.alloc d5.size _).trans (e6.mono (by have := d5.size; simp; omega))⟩
      ·   have H9 := Lib.hid (show decide (v < 18446744073709551615 - a) = false by simpa using q9)
          refine (read_to (b4.more _) 0 0 rfl (by decide) (by decide) 18446744073709551615 ha0 (by decide) (by decide) hv0 hv1 (18446744073709551615 - a) false HT.out H9.out).mono ?_
          rintro e w5 ⟨rfl, b5, e5⟩
          have d5 : Below w.heap.size w w5 := (d4.alloc d4.size _).trans (e5.below (by omega) (by have := d4.size; simp; omega))
          clear b4 b5 e5 y1 y2
          go_wp2_with fail
          refine (works_any _).mono ?_
          rintro e w6 ⟨rfl, e6⟩
          go_wp2_with fail
          go_ret
          exact ⟨by first | rfl | (simp; omega), (d5.alloc d5.size _).trans (e6.mono (by have := d5.size; simp; omega))⟩
  · have hp := age_no q1
    have Hp := Lib.hid hp
    have H3 := Lib.hid (show decide (v < 0) = false by simp; omega)
    clear hp
    by_cases q5 : a = t0
    · subst q5
      go_quiet (fail)
      go_wp2_with fail
      refine (read_to (b2.drawn _) 0 0 rfl (by decide) (by decide) a ha0 (by omega) (by omega) hv0 hv1 0 false Hp.out H3.out).mono ?_
      rintro e w3 ⟨rfl, b3, e3⟩
      have d3 : Below w.heap.size w w3 := (below_drawn d2 _).trans (e3.below (by omega) d2.size)
      clear b2 g2 d2 c0 c1 e3
      go_wp2_with fail
      refine (read_to (b3.more _) 0 0 rfl (by decide) (by decide) a ha0 (by omega) (by omega) hv0 hv1 0 false Hp.out H3.out).mono ?_
      rintro e w4 ⟨rfl, b4, e4⟩
      have d4 : Below w.heap.size w w4 := (d3.alloc d3.size _).trans (e4.below (by omega) (by have := d3.size; simp; omega))
      have x4 : Box w4 w3.heap.size 47 #[.string ⟨#[120]⟩, .int .u64 (0), .bool false] := (Box.made w3 47 _).only e4 (Nat.ne_of_gt b3.inHeap)
      have l4 : w3.heap.size < w4.heap.size := x4.inHeap
      have y1 : w4.cell? ⟨w3.heap.size, 1, none⟩ = some (.int .u64 (0)) := x4.read 1
      have y2 : w4.cell? ⟨w3.heap.size, 2, none⟩ = some (.bool false) := x4.read 2
      clear b3 d3 e4 x4
      go_wp2_with fail
      by_cases q9 : v < 18446744073709551615 - a
      ·   have H9 := Lib.hid (show decide (v < 18446744073709551615 - a) = true by simpa using q9)
          refine (read_to (b4.more _) 0 0 rfl (by decide) (by decide) 18446744073709551615 ha0 (by decide) (by decide) hv0 hv1 (18446744073709551615 - a) true HT.out H9.out).mono ?_
          rintro e w5 ⟨rfl, b5, e5⟩
          have d5 : Below w.heap.size w w5 := (d4.alloc d4.size _).trans (e5.below (by omega) (by have := d4.size; simp; omega))
          clear b4 b5 e5 y1 y2
          go_wp2_with fail
          refine (works_any _).mono ?_
          rintro e w6 ⟨rfl, e6⟩
          go_wp2_with fail
          go_ret
          exact ⟨by first | rfl | (simp; omega), (d5.alloc d5.size _).trans (e6.mono (by have := d5.size; simp; omega))⟩
      ·   have H9 := Lib.hid (show decide (v < 18446744073709551615 - a) = false by simpa using q9)
          refine (read_to (b4.more _) 0 0 rfl (by decide) (by decide) 18446744073709551615 ha0 (by decide) (by decide) hv0 hv1 (18446744073709551615 - a) false HT.out H9.out).mono ?_
          rintro e w5 ⟨rfl, b5, e5⟩
          have d5 : Below w.heap.size w w5 := (d4.alloc d4.size _).trans (e5.below (by omega) (by have := d4.size; simp; omega))
          clear b4 b5 e5 y1 y2
          go_wp2_with fail
          refine (works_any _).mono ?_
          rintro e w6 ⟨rfl, e6⟩
          go_wp2_with fail
          go_ret
          exact ⟨by first | rfl | (simp; omega), (d5.alloc d5.size _).trans (e6.mono (by have := d5.size; simp; omega))⟩
    · have q6 : t0 < a := by omega
      go_quiet (fail)
      go_wp2_with fail
      refine (read_to (b2.drawn _) 0 0 rfl (by decide) (by decide) t0 ha0 (by omega) (by omega) hv0 hv1 0 false Hp.out H3.out).mono ?_
      rintro e w3 ⟨rfl, b3, e3⟩
      have d3 : Below w.heap.size w w3 := (below_drawn d2 _).trans (e3.below (by omega) d2.size)
      clear b2 g2 d2 c0 c1 e3
      go_wp2_with fail
      refine (read_to (b3.more _) 0 0 rfl (by decide) (by decide) t0 ha0 (by omega) (by omega) hv0 hv1 0 false Hp.out H3.out).mono ?_
      rintro e w4 ⟨rfl, b4, e4⟩
      have d4 : Below w.heap.size w w4 := (d3.alloc d3.size _).trans (e4.below (by omega) (by have := d3.size; simp; omega))
      have x4 : Box w4 w3.heap.size 47 #[.string ⟨#[120]⟩, .int .u64 (0), .bool false] := (Box.made w3 47 _).only e4 (Nat.ne_of_gt b3.inHeap)
      have l4 : w3.heap.size < w4.heap.size := x4.inHeap
      have y1 : w4.cell? ⟨w3.heap.size, 1, none⟩ = some (.int .u64 (0)) := x4.read 1
      have y2 : w4.cell? ⟨w3.heap.size, 2, none⟩ = some (.bool false) := x4.read 2
      clear b3 d3 e4 x4
      go_wp2_with fail
      by_cases q9 : v < 18446744073709551615 - a
      ·   have H9 := Lib.hid (show decide (v < 18446744073709551615 - a) = true by simpa using q9)
          refine (read_to (b4.more _) 0 0 rfl (by decide) (by decide) 18446744073709551615 ha0 (by decide) (by decide) hv0 hv1 (18446744073709551615 - a) true HT.out H9.out).mono ?_
          rintro e w5 ⟨rfl, b5, e5⟩
          have d5 : Below w.heap.size w w5 := (d4.alloc d4.size _).trans (e5.below (by omega) (by have := d4.size; simp; omega))
          clear b4 b5 e5 y1 y2
          go_wp2_with fail
          refine (works_any _).mono ?_
          rintro e w6 ⟨rfl, e6⟩
          go_wp2_with fail
          go_ret
          exact ⟨by first | rfl | (simp; omega), (d5.alloc d5.size _).trans (e6.mono (by have := d5.size; simp; omega))⟩
      ·   have H9 := Lib.hid (show decide (v < 18446744073709551615 - a) = false by simpa using q9)
          refine (read_to (b4.more _) 0 0 rfl (by decide) (by decide) 18446744073709551615 ha0 (by decide) (by decide) hv0 hv1 (18446744073709551615 - a) false HT.out H9.out).mono ?_
          rintro e w5 ⟨rfl, b5, e5⟩
          have d5 : Below w.heap.size w w5 := (d4.alloc d4.size _).trans (e5.below (by omega) (by have := d4.size; simp; omega))
          clear b4 b5 e5 y1 y2
          go_wp2_with fail
          refine (works_any _).mono ?_
          rintro e w6 ⟨rfl, e6⟩
          go_wp2_with fail
          go_ret
          exact ⟨by first | rfl | (simp; omega), (d5.alloc d5.size _).trans (e6.mono (by have := d5.size; simp; omega))⟩

end Go.Proofs.Ytaeebbcjofkjlaa
