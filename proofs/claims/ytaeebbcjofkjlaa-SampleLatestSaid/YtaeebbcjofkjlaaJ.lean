/- SampleEnds: the loop over the acts. -/
import Derived.Test.YtaeebbcjofkjlaaI
namespace Go.Proofs.Ytaeebbcjofkjlaa
open Go.RowKit

section
variable {mo va en : Int}

set_option maxHeartbeats 1000000 in
set_option maxRecDepth 100000 in
theorem ends_good (h0 : 1 ≤ mo) (h1 : mo ≤ 64) (h2 : 1 ≤ en) (h3 : en ≤ 16) (hv0 : 0 ≤ va) (hv1 : va ≤ 4294967295) (a : Option Addr) (len cap : Nat) (l : Nat → Deed) (w : World) (hd : IsDeeds w a len cap l) :
    Calls Try.prog 5 #[.agg #[.int .i64 mo, .int .u32 va, .int .i64 en], .slice a len cap] w fun e w' => e = .returned (.bool true) ∧ Below w.heap.size w w' := by
  have HD := Lib.hid hd
  clear hd
  go_enter Try.func5, Try.ntmps5
  go_wp2_with fail
  refine (new_ok h0 h1 h2 h3 _).mono ?_
  rintro e w1 ⟨rfl, hw⟩
  have b1 : Box w1 (w.heap.size + 1) 57 (chan mo va en false 0 ⟨#[]⟩ fresh0) := by rw [← hw]; simpa using Box.made (w.alloc (.cells #[.int .i64 mo, .int .u32 va, .int .i64 en] 24)) 57 (chan mo va en false 0 ⟨#[]⟩ fresh0)
  have g1 : Box w1 w.heap.size 24 #[.int .i64 mo, .int .u32 va, .int .i64 en] := by rw [← hw]; exact (Box.made _ _ _).more _
  have d1 : Below w.heap.size w w1 := by rw [← hw]; exact ((Below.refl _ _).alloc (Nat.le_refl _) _).alloc (by simp) _
  clear hw
  go_wp2_with fail
  refine (few_any a len cap l _ (HD.out.later d1)).mono ?_
  rintro e w2 ⟨⟨x, rfl⟩, rfl⟩
  cases x
  · have c2 : w1.cell? ⟨w.heap.size, 2, none⟩ = some (.int .i64 en) := g1.read 2
    go_wp2_with fail
    refine (works_any _).mono ?_
    rintro e w2 ⟨rfl, d2⟩
    go_wp2_with fail
    go_ret
    exact ⟨rfl, d1.trans (d2.mono d1.size)⟩
  · have c2 : w1.cell? ⟨w.heap.size, 2, none⟩ = some (.int .i64 en) := g1.read 2
    go_wp2_with (refine wpList_alloc_to rfl 51 rfl (marks fresh0) alloc_marks w1.heap.size ?_ ?_; (with_reducible rfl))
    have hM : w.heap.size + 1 < w1.heap.size := b1.inHeap
    have s0 : St w w.heap.size w1.heap.size mo va en false 0 ⟨#[]⟩ fresh0 fresh0 (w1.alloc (.cells (marks fresh0) 51)) := ⟨b1.more _, Box.made _ _ _, g1.more _, d1.alloc d1.size _⟩
    have hlen : len ≤ 9223372036854775807 := by
      have h5 := HD.out.1
      have h6 := HD.out.2.1
      unfold maxLen at h6
      omega
    clear b1 g1 d1 c2
    go_loopw [8] (fun i wr => ∃ (k : Nat) (has : Bool) (t : Int) (s : ByteArray) (F : Nat → Bool), k ≤ len ∧ i = .int .i64 k ∧ St w w.heap.size w1.heap.size mo va en has t s F F wr ∧ (∀ i : Nat, en ≤ i → F i = false) ∧ 0 ≤ t) (fun i _ => len - (intOf i).toNat)
    case atStart => exact ⟨0, false, 0, ⟨#[]⟩, fresh0, by omega, rfl, s0, fun _ _ => rfl, by omega⟩
    case round =>
      obtain ⟨k, has, t, s, F, hk, rfl, sx, hF, ht⟩ := hrel
      obtain ⟨wo, rfl⟩ : ∃ wo : World, wo = wr := ⟨_, rfl⟩
      have HF := Lib.hid hF
      clear hF s0
      by_cases hlt : k < len
      · obtain ⟨b, off, rfl, hb, hi⟩ := (HD.out.later sx.below).2.2 (by omega)
        obtain ⟨hr, ⟨hw0, hw1⟩, ⟨ht0, ht1⟩, hk0, hk1⟩ := hi k hlt
        have a0 : wo.cell? ⟨b, off + k * 4, none⟩ = some (.int .u8 (l k).what) := hr 0 _ rfl
        have a1 : wo.cell? ⟨b, off + k * 4 + 1, none⟩ = some (.int .u64 (l k).t) := hr 1 _ rfl
        have a2 : wo.cell? ⟨b, off + k * 4 + 2, none⟩ = some (.string (l k).s) := hr 2 _ rfl
        have a3 : wo.cell? ⟨b, off + k * 4 + 3, none⟩ = some (.int .i64 (l k).k) := hr 3 _ rfl
        clear hr hi
        generalize (l k).what = aw at *
        generalize (l k).t = at_ at *
        generalize (l k).s = as_ at *
        generalize (l k).k = ak at *
        have c2 : wo.cell? ⟨w.heap.size, 2, none⟩ = some (.int .i64 en) := sx.shape.read 2
        have sy := sx.more (.cells #[.int .u8 aw, .int .u64 at_, .string as_, .int .i64 ak] 39)
        by_cases p2 : aw % 5 < 2
        · by_cases hs : (as_.size : Int) ≤ mo
          · go_wp2_with fail
            refine (write_ok sy.chan at_ as_ hs (by omega) h3).mono ?_
            rintro e w3 ⟨rfl, b3, e3⟩
            have s3 := sy.turned hM e3 b3
            have HF2 := Lib.hid (show ∀ i : Nat, en ≤ i → upTo F en.toNat i = false from fun i hi => by simp only [upTo, HF.out i hi, Bool.or_false, decide_eq_false_iff_not]; omega)
            clear sx sy b3 e3 a0 a1 a2 a3 c2
            go_wp2_with fail
            go_loopw [10] (fun j wq => ∃ q : Nat, (q : Int) ≤ en ∧ j = .int .i64 q ∧ St w w.heap.size w1.heap.size mo va en true at_ as_ (upTo F en.toNat) (upTo F q) wq) (fun j _ => en.toNat - (intOf j).toNat)
            case atStart => exact ⟨0, by omega, rfl, by rw [upTo_zero]; exact s3⟩
            case round =>
              obtain ⟨q, hq, rfl, sq⟩ := hrel
              obtain ⟨wp, rfl⟩ : ∃ wp : World, wp = wr := ⟨_, rfl⟩
              have ce : wp.cell? ⟨w.heap.size, 2, none⟩ = some (.int .i64 en) := sq.shape.read 2
              by_cases hlt2 : (q : Int) < en
              · have cm := (sq.marks.read q).trans (marks_at _ q (by omega))
                have fm := sq.marks.warm q
                have s4 := sq.mark hM q (by omega) true
                rw [upTo_succ] at s4
                have S4 := Lib.hid s4
                clear s4 sq s3
                go_wp2_with fail
                go_roundw
                case rel => exact ⟨q + 1, by omega, by go_num, S4.out⟩
                case measure => simp [intOf]; omega
              · have hqe : en.toNat = q := by omega
                have s5 : St w w.heap.size w1.heap.size mo va en true at_ as_ (upTo F en.toNat) (upTo F en.toNat) wp := by
                  rw [hqe] at sq ⊢
                  exact sq
                clear sq s3 hqe
                go_wp2_with fail
                go_loopw [13] (fun j wq => ∃ q : Nat, q ≤ 16 ∧ j = .int .i64 q ∧ St w w.heap.size w1.heap.size mo va en true at_ as_ (upTo F en.toNat) (upTo F en.toNat) wq) (fun j _ => 16 - (intOf j).toNat)
                case atStart => exact ⟨0, by omega, rfl, s5⟩
                case round =>
                  obtain ⟨q, hq, rfl, sq⟩ := hrel
                  by_cases hlt2 : q < 16
                  · have cm := (sq.marks.read q).trans (marks_at _ q hlt2)
                    go_wp2_with fail
                    go_quiet ((go_at_call 16; exact Calls.quiet_of_same (fresh_all (sq.chan.drawn _) HF2.out q hlt2)))
                    go_wp2_with fail
                    go_roundw
                    case rel => exact ⟨q + 1, by omega, by go_num, sq.drawn _⟩
                    case measure => simp [intOf]; omega
                  · go_wp2_with fail
                    go_roundw
                    case rel => exact ⟨k + 1, true, at_, as_, (upTo F en.toNat), by omega, by go_num, sq, HF2.out, ht0⟩
                    case measure => simp [intOf]; omega
          · go_wp2_with fail
            refine (write_long sy.chan at_ as_ (by omega)).mono ?_
            rintro e w3 ⟨rfl, rfl⟩
            clear sx a0 a1 a2 a3 c2
            go_wp2_with fail
            go_loopw [13] (fun j wq => ∃ q : Nat, q ≤ 16 ∧ j = .int .i64 q ∧ St w w.heap.size w1.heap.size mo va en has t s F F wq) (fun j _ => 16 - (intOf j).toNat)
            case atStart => exact ⟨0, by omega, rfl, sy⟩
            case round =>
              obtain ⟨q, hq, rfl, sq⟩ := hrel
              by_cases hlt2 : q < 16
              · have cm := (sq.marks.read q).trans (marks_at _ q hlt2)
                go_wp2_with fail
                go_quiet ((go_at_call 16; exact Calls.quiet_of_same (fresh_all (sq.chan.drawn _) HF.out q hlt2)))
                go_wp2_with fail
                go_roundw
                case rel => exact ⟨q + 1, by omega, by go_num, sq.drawn _⟩
                case measure => simp [intOf]; omega
              · go_wp2_with fail
                go_roundw
                case rel => exact ⟨k + 1, has, t, s, F, by omega, by go_num, sq, HF.out, ht⟩
                case measure => simp [intOf]; omega
        · by_cases p4 : aw % 5 < 4
          · by_cases hin : 0 ≤ ak ∧ ak < en
            · obtain ⟨hin0, hin1⟩ := hin
              obtain ⟨q0, rfl⟩ : ∃ q0 : Nat, ak = q0 := ⟨ak.toNat, by omega⟩
              cases has
              · go_wp2_with fail
                refine (read_none sy.chan q0 hin0 hin1 at_).mono ?_
                rintro e w3 ⟨rfl, e3⟩
                have s3 := (sy.later e3).more (.cells #[.string ⟨#[]⟩, .int .u64 0, .bool false] 47)
                clear sx sy e3 a0 a1 a2 a3 c2
                go_wp2_with fail
                go_loopw [13] (fun j wq => ∃ q : Nat, q ≤ 16 ∧ j = .int .i64 q ∧ St w w.heap.size w1.heap.size mo va en false t s F F wq) (fun j _ => 16 - (intOf j).toNat)
                case atStart => exact ⟨0, by omega, rfl, s3⟩
                case round =>
                  obtain ⟨q, hq, rfl, sq⟩ := hrel
                  by_cases hlt2 : q < 16
                  · have cm := (sq.marks.read q).trans (marks_at _ q hlt2)
                    go_wp2_with fail
                    go_quiet ((go_at_call 16; exact Calls.quiet_of_same (fresh_all (sq.chan.drawn _) HF.out q hlt2)))
                    go_wp2_with fail
                    go_roundw
                    case rel => exact ⟨q + 1, by omega, by go_num, sq.drawn _⟩
                    case measure => simp [intOf]; omega
                  · go_wp2_with fail
                    go_roundw
                    case rel => exact ⟨k + 1, false, t, s, F, by omega, by go_num, sq, HF.out, ht⟩
                    case measure => simp [intOf]; omega
              · go_wp2_with fail
                refine (read_at sy.chan q0 q0 rfl hin1 (by omega) at_ ht ht0 ht1 hv0 hv1 _ _ rfl rfl).mono ?_
                rintro e w3 ⟨rfl, b3, e3⟩
                have s3 := sy.turned hM e3 b3
                have x3 : Box w3 wo.heap.size 39 #[.int .u8 aw, .int .u64 at_, .string as_, .int .i64 q0] := (Box.made wo 39 _).only e3 (Nat.ne_of_gt sx.chan.inHeap)
                have y3 : w3.cell? ⟨wo.heap.size, 3, none⟩ = some (.int .i64 q0) := x3.read 3
                have z3 : w3.cell? ⟨w.heap.size, 2, none⟩ = some (.int .i64 en) := s3.shape.read 2
                have m3 := (s3.marks.read q0).trans (marks_at _ q0 (by omega))
                have f3 := s3.marks.warm q0
                have l3 := s3.marks.inHeap
                have l4 := x3.inHeap
                have l5 := s3.shape.inHeap
                have s4 := (s3.mark hM q0 (by omega) false).more (.cells #[.string s, .int .u64 (ageOf t at_), .bool (decide (va < ageOf t at_))] 47)
                have S4 := Lib.hid s4
                clear s4 s3
                have HF3 := Lib.hid (show ∀ i : Nat, en ≤ i → turn F q0 false i = false from fun i hi => by simp only [turn, HF.out i hi, ite_self])
                clear sx sy b3 e3 x3 a0 a1 a2 a3 c2
                go_wp2_with fail
                go_loopw [13] (fun j wq => ∃ q : Nat, q ≤ 16 ∧ j = .int .i64 q ∧ St w w.heap.size w1.heap.size mo va en true t s (turn F q0 false) (turn F q0 false) wq) (fun j _ => 16 - (intOf j).toNat)
                case atStart => exact ⟨0, by omega, rfl, S4.out⟩
                case round =>
                  obtain ⟨q, hq, rfl, sq⟩ := hrel
                  by_cases hlt2 : q < 16
                  · have cm := (sq.marks.read q).trans (marks_at _ q hlt2)
                    go_wp2_with fail
                    go_quiet ((go_at_call 16; exact Calls.quiet_of_same (fresh_all (sq.chan.drawn _) HF3.out q hlt2)))
                    go_wp2_with fail
                    go_roundw
                    case rel => exact ⟨q + 1, by omega, by go_num, sq.drawn _⟩
                    case measure => simp [intOf]; omega
                  · go_wp2_with fail
                    go_roundw
                    case rel => exact ⟨k + 1, true, t, s, (turn F q0 false), by omega, by go_num, sq, HF3.out, ht⟩
                    case measure => simp [intOf]; omega
            · go_wp2_with fail
              refine (read_out sy.chan ak (by omega) at_).mono ?_
              rintro e w3 ⟨rfl, e3⟩
              have s3 := (sy.later e3).more (.cells #[.string ⟨#[]⟩, .int .u64 0, .bool false] 47)
              clear sx sy e3 a0 a1 a2 a3 c2
              go_wp2_with fail
              go_loopw [13] (fun j wq => ∃ q : Nat, q ≤ 16 ∧ j = .int .i64 q ∧ St w w.heap.size w1.heap.size mo va en has t s F F wq) (fun j _ => 16 - (intOf j).toNat)
              case atStart => exact ⟨0, by omega, rfl, s3⟩
              case round =>
                obtain ⟨q, hq, rfl, sq⟩ := hrel
                by_cases hlt2 : q < 16
                · have cm := (sq.marks.read q).trans (marks_at _ q hlt2)
                  go_wp2_with fail
                  go_quiet ((go_at_call 16; exact Calls.quiet_of_same (fresh_all (sq.chan.drawn _) HF.out q hlt2)))
                  go_wp2_with fail
                  go_roundw
                  case rel => exact ⟨q + 1, by omega, by go_num, sq.drawn _⟩
                  case measure => simp [intOf]; omega
                · go_wp2_with fail
                  go_roundw
                  case rel => exact ⟨k + 1, has, t, s, F, by omega, by go_num, sq, HF.out, ht⟩
                  case measure => simp [intOf]; omega
          · clear sx
            go_wp2_with fail
            go_loopw [13] (fun j wq => ∃ q : Nat, q ≤ 16 ∧ j = .int .i64 q ∧ St w w.heap.size w1.heap.size mo va en has t s F F wq) (fun j _ => 16 - (intOf j).toNat)
            case atStart => exact ⟨0, by omega, rfl, sy⟩
            case round =>
              obtain ⟨q, hq, rfl, sq⟩ := hrel
              by_cases hlt2 : q < 16
              · have cm := (sq.marks.read q).trans (marks_at _ q hlt2)
                go_wp2_with fail
                go_quiet ((go_at_call 16; exact Calls.quiet_of_same (fresh_all (sq.chan.drawn _) HF.out q hlt2)))
                go_wp2_with fail
                go_roundw
                case rel => exact ⟨q + 1, by omega, by go_num, sq.drawn _⟩
                case measure => simp [intOf]; omega
              · go_wp2_with fail
                go_roundw
                case rel => exact ⟨k + 1, has, t, s, F, by omega, by go_num, sq, HF.out, ht⟩
                case measure => simp [intOf]; omega
      · go_wp2_with fail
        refine (works_any _).mono ?_
        rintro e w2 ⟨rfl, d2⟩
        go_wp2_with fail
        go_ret
        exact ⟨rfl, sx.below.trans (d2.mono (Nat.le_of_lt sx.shape.inHeap))⟩
end
end Go.Proofs.Ytaeebbcjofkjlaa
