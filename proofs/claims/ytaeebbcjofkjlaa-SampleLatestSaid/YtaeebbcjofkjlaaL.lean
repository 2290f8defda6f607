/- SampleLatest: the state of the loop: two channels. -/
import Derived.Test.YtaeebbcjofkjlaaI
import Derived.Deep.RegionHeld3
import Derived.Deep.RegionWith
namespace Go.Proofs.Ytaeebbcjofkjlaa
open Go.RowKit

/-- What stands in memory at a round's head: the channels in blocks N + 1 and N + 2, the shape in block N; what was there is as it was. -/
structure Two (w0 : World) (N : Nat) (mo va en : Int) (has : Bool) (t : Int) (s : ByteArray) (F G : Nat → Bool) (w : World) : Prop where
  one : Box w (N + 1) 57 (chan mo va en has t s F)
  other : Box w (N + 2) 57 (chan mo va en has t s G)
  shape : Box w N 24 #[.int .i64 mo, .int .u32 va, .int .i64 en]
  below : Below N w0 w

namespace Two
variable {w0 w w' : World} {N : Nat} {mo va en t : Int} {has : Bool} {s : ByteArray} {F G : Nat → Bool}
theorem drawn (h : Two w0 N mo va en has t s F G w) (n : Nat) : Two w0 N mo va en has t s F G (w.drewN n) := ⟨h.one.drawn n, h.other.drawn n, h.shape.drawn n, below_drawn h.below n⟩
theorem more (h : Two w0 N mo va en has t s F G w) (o : Obj) : Two w0 N mo va en has t s F G (w.alloc o) :=
  ⟨h.one.more o, h.other.more o, h.shape.more o, h.below.alloc (Nat.le_of_lt h.shape.inHeap) o⟩
theorem later (h : Two w0 N mo va en has t s F G w) (d : Below w.heap.size w w') : Two w0 N mo va en has t s F G w' :=
  ⟨h.one.over d h.one.inHeap, h.other.over d h.other.inHeap, h.shape.over d h.shape.inHeap, h.below.trans (d.mono (Nat.le_of_lt h.shape.inHeap))⟩
/-- The first channel is read. -/
theorem read (h : Two w0 N mo va en has t s F G w) {F' : Nat → Bool} (d : Only (N + 1) w w') (c : Box w' (N + 1) 57 (chan mo va en has t s F')) : Two w0 N mo va en has t s F' G w' :=
  ⟨c, h.other.only d (by omega), h.shape.only d (by omega), h.below.trans (d.below (by omega) (Nat.le_of_lt h.shape.inHeap))⟩
end Two

/-- The two channels while one statement writes to both: each by its own cells; the act's copy lies in block A. -/
structure Pair (w0 : World) (N A : Nat) (C D sh dd : Array Value) (w : World) : Prop where
  one : Box w (N + 1) 57 C
  other : Box w (N + 2) 57 D
  shape : Box w N 24 sh
  deed : Box w A 39 dd
  below : Below N w0 w

namespace Pair
theorem drawn {w0 w : World} {N A : Nat} {C D sh dd : Array Value} (h : Pair w0 N A C D sh dd w) (n : Nat) : Pair w0 N A C D sh dd (w.drewN n) := ⟨h.one, h.other, h.shape, h.deed, below_drawn h.below n⟩
variable {w0 w w' : World} {N A : Nat} {C D sh dd : Array Value}
theorem drawn1 (h : Pair w0 N A C D sh dd w) : Pair w0 N A C D sh dd w.drew := ⟨h.one, h.other, h.shape, h.deed, h.below.drew⟩
theorem cOnly (h : Pair w0 N A C D sh dd w) (hA : N + 2 < A) {C' : Array Value} (d : Only (N + 1) w w') (c : Box w' (N + 1) 57 C') : Pair w0 N A C' D sh dd w' :=
  ⟨c, h.other.only d (by omega), h.shape.only d (by omega), h.deed.only d (by omega), h.below.trans (d.below (by omega) (Nat.le_of_lt h.shape.inHeap))⟩
theorem dOnly (h : Pair w0 N A C D sh dd w) (hA : N + 2 < A) {D' : Array Value} (d : Only (N + 2) w w') (c : Box w' (N + 2) 57 D') : Pair w0 N A C D' sh dd w' :=
  ⟨h.one.only d (by omega), c, h.shape.only d (by omega), h.deed.only d (by omega), h.below.trans (d.below (by omega) (Nat.le_of_lt h.shape.inHeap))⟩
end Pair

section
variable {w0 w : World} {N A : Nat} {mo va en t : Int} {has : Bool} {s : ByteArray} {F G : Nat → Bool} {C D sh dd : Array Value}
theorem write_c (h : Pair w0 N A (chan mo va en has t s F) D sh dd w) (hA : N + 2 < A) (a : Int) (x : ByteArray) (hx : x.size ≤ mo) (h0 : 0 ≤ en) (h16 : en ≤ 16) :
    Calls Try.prog 14 #[.pointer (some ⟨N + 1, 0, none⟩), .int .u64 a, .string x] w fun e w' => e = .returned (.int .i64 0) ∧ Pair w0 N A (chan mo va en true a x (upTo F en.toNat)) D sh dd w' :=
  (write_ok h.one a x hx h0 h16).mono fun _ _ ⟨he, hb, ho⟩ => ⟨he, h.cOnly hA ho hb⟩
theorem write_c_long (h : Pair w0 N A (chan mo va en has t s F) D sh dd w) (a : Int) (x : ByteArray) (hx : mo < x.size) :
    Calls Try.prog 14 #[.pointer (some ⟨N + 1, 0, none⟩), .int .u64 a, .string x] w fun e w' => e = .returned (.int .i64 5) ∧ w' = w :=
  (write_long h.one a x hx).mono fun _ _ ⟨he, hw⟩ => ⟨he, hw.symm⟩
theorem write_d_long (h : Pair w0 N A C (chan mo va en has t s G) sh dd w) (a : Int) (x : ByteArray) (hx : mo < x.size) :
    Calls Try.prog 14 #[.pointer (some ⟨N + 2, 0, none⟩), .int .u64 a, .string x] w fun e w' => e = .returned (.int .i64 5) ∧ w' = w :=
  (write_long h.other a x hx).mono fun _ _ ⟨he, hw⟩ => ⟨he, hw.symm⟩
theorem write_d (h : Pair w0 N A C (chan mo va en has t s G) sh dd w) (hA : N + 2 < A) (a : Int) (x : ByteArray) (hx : x.size ≤ mo) (h0 : 0 ≤ en) (h16 : en ≤ 16) :
    Calls Try.prog 14 #[.pointer (some ⟨N + 2, 0, none⟩), .int .u64 a, .string x] w fun e w' => e = .returned (.int .i64 0) ∧ Pair w0 N A C (chan mo va en true a x (upTo G en.toNat)) sh dd w' :=
  (write_ok h.other a x hx h0 h16).mono fun _ _ ⟨he, hb, ho⟩ => ⟨he, h.dOnly hA ho hb⟩
end

section
variable {w0 : World} {N : Nat} {mo va en : Int}

set_option maxHeartbeats 1000000 in
set_option maxRecDepth 100000 in
theorem latest_bad (h : ¬ (1 ≤ mo ∧ mo ≤ 64 ∧ 1 ≤ en ∧ en ≤ 16)) (a : Option Addr) (len cap : Nat) (z : Int) (w : World) :
    Calls Try.prog 4 #[.agg #[.int .i64 mo, .int .u32 va, .int .i64 en], .slice a len cap, .int .i64 z] w fun e w' => e = .returned (.bool true) ∧ Below w.heap.size w w' := by
  have H := Lib.hid h
  clear h
  go_enter Try.func4, Try.ntmps4
  go_wp2_with fail
  refine (new_bad H.out _).mono ?_
  rintro e w1 ⟨rfl, rfl⟩
  go_wp2_with fail
  refine (new_bad H.out _).mono ?_
  rintro e w1 ⟨rfl, rfl⟩
  go_wp2_with fail
  refine (works_any _).mono ?_
  rintro e w2 ⟨rfl, d2⟩
  go_wp2_with fail
  go_ret
  exact ⟨rfl, ((Below.refl _ _).alloc (Nat.le_refl _) _).trans (d2.mono (by simp))⟩

set_option maxHeartbeats 2000000 in
set_option maxRecDepth 100000 in
theorem latest_good (h0 : 1 ≤ mo) (h1 : mo ≤ 64) (h2 : 1 ≤ en) (h3 : en ≤ 16) (hv0 : 0 ≤ va) (hv1 : va ≤ 4294967295) (a : Option Addr) (len cap : Nat) (l : Nat → Deed) (z : Int) (w : World) (hd : IsDeeds w a len cap l) :
    Calls Try.prog 4 #[.agg #[.int .i64 mo, .int .u32 va, .int .i64 en], .slice a len cap, .int .i64 z] w fun e w' => e = .returned (.bool true) ∧ Below w.heap.size w w' := by
  have HD := Lib.hid hd
  clear hd
  go_enter Try.func4, Try.ntmps4
  go_wp2_with fail
  refine (new_ok h0 h1 h2 h3 _).mono ?_
  rintro e w1 ⟨rfl, hw⟩
  have hz1 : w1.heap.size = w.heap.size + 2 := by rw [← hw]; simp
  have b1 : Box w1 (w.heap.size + 1) 57 (chan mo va en false 0 ⟨#[]⟩ fresh0) := by rw [← hw]; simpa using Box.made (w.alloc (.cells #[.int .i64 mo, .int .u32 va, .int .i64 en] 24)) 57 (chan mo va en false 0 ⟨#[]⟩ fresh0)
  have g1 : Box w1 w.heap.size 24 #[.int .i64 mo, .int .u32 va, .int .i64 en] := by rw [← hw]; exact (Box.made _ _ _).more _
  have d1 : Below w.heap.size w w1 := by rw [← hw]; exact ((Below.refl _ _).alloc (Nat.le_refl _) _).alloc (by simp) _
  clear hw
  have x0 : w1.cell? ⟨w.heap.size, 0, none⟩ = some (.int .i64 mo) := g1.read 0
  have x1 : w1.cell? ⟨w.heap.size, 1, none⟩ = some (.int .u32 va) := g1.read 1
  have x2 : w1.cell? ⟨w.heap.size, 2, none⟩ = some (.int .i64 en) := g1.read 2
  have HZ := Lib.hid hz1
  clear hz1
  go_wp2_with fail
  refine (new_ok h0 h1 h2 h3 _).mono ?_
  rintro e w2 ⟨rfl, hw⟩
  have s2 : Two w w.heap.size mo va en false 0 ⟨#[]⟩ fresh0 fresh0 w2 := by
    rw [← hw]
    refine ⟨b1.more _, ?_, g1.more _, d1.alloc d1.size _⟩
    rw [← HZ.out]
    exact Box.made _ _ _
  clear hw b1 g1 d1 x0 x1 x2
  rw [HZ.out]
  go_wp2_with fail
  refine (few_any a len cap l _ (HD.out.later s2.below)).mono ?_
  rintro e w3 ⟨⟨x, rfl⟩, rfl⟩
  have hlen : len ≤ 9223372036854775807 := by
    have h5 := HD.out.1
    have h6 := HD.out.2.1
    unfold maxLen at h6
    omega
  cases x
  · go_wp2_with fail
    refine (works_any _).mono ?_
    rintro e w4 ⟨rfl, d4⟩
    go_wp2_with fail
    go_ret
    exact ⟨rfl, s2.below.trans (d4.mono (Nat.le_of_lt s2.shape.inHeap))⟩
  · go_wp2_with fail
    go_loopw [11, 12, 13, 14] (fun x y z i wr => ∃ (k : Nat) (has : Bool) (t : Int) (s : ByteArray) (F G : Nat → Bool), k ≤ len ∧ i = .int .i64 k ∧ x = .string s ∧ y = .int .u64 t ∧ z = .bool has ∧ Two w w.heap.size mo va en has t s F G wr ∧ 0 ≤ t) (fun _ _ _ i _ => len - (intOf i).toNat)
    case atStart => exact ⟨0, false, 0, ⟨#[]⟩, fresh0, fresh0, by omega, rfl, rfl, rfl, rfl, s2, by omega⟩
    case round =>
      obtain ⟨k, has, t, s, F, G, hk, rfl, rfl, rfl, rfl, sx, ht⟩ := hrel
      obtain ⟨wo, rfl⟩ : ∃ wo : World, wo = wr := ⟨_, rfl⟩
      clear s2
      by_cases hlt : k < len
      · obtain ⟨b, off, rfl, hb, hi⟩ := (HD.out.later sx.below).2.2 (by omega)
        obtain ⟨hr, ⟨hw0, hw1⟩, ⟨ht0, ht1⟩, hk0, hk1⟩ := hi k hlt
        have a0 : wo.cell? ⟨b, off + k * 4, none⟩ = some (.int .u8 (l k).what) := hr 0 _ rfl
        have a1 : wo.cell? ⟨b, off + k * 4 + 1, none⟩ = some (.int .u64 (l k).t) := hr 1 _ rfl
        have a2 : wo.cell? ⟨b, off + k * 4 + 2, none⟩ = some (.string (l k).s) := hr 2 _ rfl
        have a3 : wo.cell? ⟨b, off + k * 4 + 3, none⟩ = some (.int .i64 (l k).k) := hr 3 _ rfl
        clear hr hi
        generalize (l k).what = aw at *
        generalize (l k).t = at_ at *
        generalize (l k).s = as_ at *
        generalize (l k).k = ak at *
        by_cases p2 : aw % 5 < 2
        · go_wp2_with fail
          have hAN : w.heap.size + 2 < wo.heap.size := sx.other.inHeap
          have hen : 0 ≤ en := by omega
          obtain ⟨wz, hwz⟩ : ∃ wz, wz = wo.alloc (.cells #[.int .u8 aw, .int .u64 at_, .string as_, .int .i64 ak] 39) := ⟨_, rfl⟩
          have pz : Pair w w.heap.size wo.heap.size (chan mo va en has t s F) (chan mo va en has t s G) #[.int .i64 mo, .int .u32 va, .int .i64 en] #[.int .u8 aw, .int .u64 at_, .string as_, .int .i64 ak] wz := by
            rw [hwz]
            exact ⟨sx.one.more _, sx.other.more _, sx.shape.more _, Box.made _ _ _, sx.below.alloc (Nat.le_of_lt sx.shape.inHeap) _⟩
          rw [← hwz]
          clear hwz sx a0 a1 a2 a3
          have c1 : wz.cell? ⟨wo.heap.size, 1, none⟩ = some (.int .u64 at_) := pz.deed.read 1
          have c2 : wz.cell? ⟨wo.heap.size, 2, none⟩ = some (.string as_) := pz.deed.read 2
          by_cases hs : (as_.size : Int) ≤ mo
          · go_region_held3 (fun w' => w'.cell? ⟨wo.heap.size, 1, none⟩ = some (.int .u64 at_) ∧ w'.cell? ⟨wo.heap.size, 2, none⟩ = some (.string as_)) (first | exact ⟨c1, c2⟩ | exact ⟨c3, c4⟩ | exact ⟨c5, c6⟩)
              (first
                | (go_at_call 14; (with_reducible refine (write_c pz.drawn1 hAN at_ as_ hs hen h3).mono ?_); rintro e w3 ⟨rfl, p3⟩; clear pz c1 c2; have c3 : w3.cell? ⟨wo.heap.size, 1, none⟩ = some (.int .u64 at_) := p3.deed.read 1; have c4 : w3.cell? ⟨wo.heap.size, 2, none⟩ = some (.string as_) := p3.deed.read 2)
                | (go_at_call 14; (with_reducible refine (write_d pz.drawn1 hAN at_ as_ hs hen h3).mono ?_); rintro e w3 ⟨rfl, p5⟩; clear pz c1 c2; have c3 : w3.cell? ⟨wo.heap.size, 1, none⟩ = some (.int .u64 at_) := p5.deed.read 1; have c4 : w3.cell? ⟨wo.heap.size, 2, none⟩ = some (.string as_) := p5.deed.read 2)
                | (go_at_call 14; (with_reducible refine (write_c p5 hAN at_ as_ hs hen h3).mono ?_); rintro e w4 ⟨rfl, p4⟩; clear p5 c3 c4; have c5 : w4.cell? ⟨wo.heap.size, 1, none⟩ = some (.int .u64 at_) := p4.deed.read 1; have c6 : w4.cell? ⟨wo.heap.size, 2, none⟩ = some (.string as_) := p4.deed.read 2)
                | (go_at_call 14; (with_reducible refine (write_d p3 hAN at_ as_ hs hen h3).mono ?_); rintro e w4 ⟨rfl, p4⟩; clear p3 c3 c4; have c5 : w4.cell? ⟨wo.heap.size, 1, none⟩ = some (.int .u64 at_) := p4.deed.read 1; have c6 : w4.cell? ⟨wo.heap.size, 2, none⟩ = some (.string as_) := p4.deed.read 2))
            have x4 : w4.cell? ⟨w.heap.size, 0, none⟩ = some (.int .i64 mo) := p4.shape.read 0
            have T4 := Lib.hid (Two.mk p4.one p4.other p4.shape p4.below)
            clear p4
            go_wp2_with fail
            go_roundw
            case rel => exact ⟨k + 1, true, at_, as_, _, _, by omega, by go_num, rfl, rfl, rfl, T4.out, ht0⟩
            case measure => simp [intOf]; omega
          · have hs' : mo < as_.size := by omega
            have x4 : wz.cell? ⟨w.heap.size, 0, none⟩ = some (.int .i64 mo) := pz.shape.read 0
            go_quiet ((go_at_call 14; (first | (with_reducible exact Calls.quiet_of_same (write_c_long (pz.drawn _) at_ as_ hs')) | (with_reducible exact Calls.quiet_of_same (write_d_long (pz.drawn _) at_ as_ hs')))))
            have T4 := Lib.hid (fun n => Two.drawn (Two.mk pz.one pz.other pz.shape pz.below) n)
            clear pz
            go_wp2_with fail
            go_roundw
            case rel => exact ⟨k + 1, has, t, s, _, _, by omega, by go_num, rfl, rfl, rfl, T4.out _, ht⟩
            case measure => simp [intOf]; omega
        · have c2' : wo.cell? ⟨w.heap.size, 2, none⟩ = some (.int .i64 en) := sx.shape.read 2
          have sy := sx.more (.cells #[.int .u8 aw, .int .u64 at_, .string as_, .int .i64 ak] 39)
          have yA : Box (wo.alloc (.cells #[.int .u8 aw, .int .u64 at_, .string as_, .int .i64 ak] 39)) wo.heap.size 39 #[.int .u8 aw, .int .u64 at_, .string as_, .int .i64 ak] := Box.made _ _ _
          have hAN : w.heap.size + 2 < wo.heap.size := sx.other.inHeap
          by_cases hin : 0 ≤ ak ∧ ak < en
          · obtain ⟨hin0, hin1⟩ := hin
            obtain ⟨q0, rfl⟩ : ∃ q0 : Nat, ak = q0 := ⟨ak.toNat, by omega⟩
            cases has
            · go_wp2_with fail
              refine (read_none sy.one q0 hin0 hin1 at_).mono ?_
              rintro e w3 ⟨rfl, e3⟩
              have s3 := sy.later e3
              have y3 := yA.over e3 yA.inHeap
              have l3 := s3.shape.inHeap
              have l4 := y3.inHeap
              have f3 : w3.cell? ⟨wo.heap.size, 3, none⟩ = some (.int .i64 q0) := y3.read 3
              have f2 : w3.cell? ⟨w.heap.size, 2, none⟩ = some (.int .i64 en) := s3.shape.read 2
              have T4 := Lib.hid (s3.more (.cells #[.string ⟨#[]⟩, .int .u64 0, .bool false] 47))
              clear sx sy yA e3 s3 y3 a0 a1 a2 a3 c2'
              go_wp2_with fail
              go_roundw
              case rel => exact ⟨k + 1, false, t, s, _, _, by omega, by go_num, rfl, rfl, rfl, T4.out, ht⟩
              case measure => simp [intOf]; omega
            · by_cases p5 : t < at_
              · have Hp := Lib.hid (show ageOf t at_ = at_ - t from if_pos p5)
                by_cases p6 : va < at_ - t
                · have Hs := Lib.hid (show decide (va < at_ - t) = true by simpa using p6)
                  go_wp2_with fail
                  refine (read_at sy.one q0 q0 rfl hin1 (by omega) at_ ht ht0 ht1 hv0 hv1 (at_ - t) true Hp.out Hs.out).mono ?_
                  rintro e w3 ⟨rfl, b3, e3⟩
                  have s3 := sy.read e3 b3
                  have y3 := yA.only e3 (by omega)
                  have l3 := s3.shape.inHeap
                  have l4 := y3.inHeap
                  have f1 : w3.cell? ⟨wo.heap.size, 1, none⟩ = some (.int .u64 at_) := y3.read 1
                  have f3 : w3.cell? ⟨wo.heap.size, 3, none⟩ = some (.int .i64 q0) := y3.read 3
                  have f0 : w3.cell? ⟨w.heap.size, 1, none⟩ = some (.int .u32 va) := s3.shape.read 1
                  have f2 : w3.cell? ⟨w.heap.size, 2, none⟩ = some (.int .i64 en) := s3.shape.read 2
                  have T4 := Lib.hid (s3.more (.cells #[.string s, .int .u64 ((at_ - t)), .bool true] 47))
                  clear sx sy yA b3 e3 s3 y3 a0 a1 a2 a3 c2'
                  go_wp2_with fail
                  go_roundw
                  case rel => exact ⟨k + 1, true, t, s, _, _, by omega, by go_num, rfl, rfl, rfl, T4.out, ht⟩
                  case measure => simp [intOf]; omega
                · have Hs := Lib.hid (show decide (va < at_ - t) = false by simpa using p6)
                  go_wp2_with fail
                  refine (read_at sy.one q0 q0 rfl hin1 (by omega) at_ ht ht0 ht1 hv0 hv1 (at_ - t) false Hp.out Hs.out).mono ?_
                  rintro e w3 ⟨rfl, b3, e3⟩
                  have s3 := sy.read e3 b3
                  have y3 := yA.only e3 (by omega)
                  have l3 := s3.shape.inHeap
                  have l4 := y3.inHeap
                  have f1 : w3.cell? ⟨wo.heap.size, 1, none⟩ = some (.int .u64 at_) := y3.read 1
                  have f3 : w3.cell? ⟨wo.heap.size, 3, none⟩ = some (.int .i64 q0) := y3.read 3
                  have f0 : w3.cell? ⟨w.heap.size, 1, none⟩ = some (.int .u32 va) := s3.shape.read 1
                  have f2 : w3.cell? ⟨w.heap.size, 2, none⟩ = some (.int .i64 en) := s3.shape.read 2
                  have T4 := Lib.hid (s3.more (.cells #[.string s, .int .u64 ((at_ - t)), .bool false] 47))
                  clear sx sy yA b3 e3 s3 y3 a0 a1 a2 a3 c2'
                  go_wp2_with fail
                  go_roundw
                  case rel => exact ⟨k + 1, true, t, s, _, _, by omega, by go_num, rfl, rfl, rfl, T4.out, ht⟩
                  case measure => simp [intOf]; omega
              · have Hp := Lib.hid (show ageOf t at_ = 0 from if_neg p5)
                have Hs := Lib.hid (show decide (va < 0) = false by simp; omega)
                by_cases p6 : t = at_
                · subst p6
                  go_wp2_with fail
                  refine (read_at sy.one q0 q0 rfl hin1 (by omega) t ht ht0 ht1 hv0 hv1 0 false Hp.out Hs.out).mono ?_
                  rintro e w3 ⟨rfl, b3, e3⟩
                  have s3 := sy.read e3 b3
                  have y3 := yA.only e3 (by omega)
                  have l3 := s3.shape.inHeap
                  have l4 := y3.inHeap
                  have f1 : w3.cell? ⟨wo.heap.size, 1, none⟩ = some (.int .u64 t) := y3.read 1
                  have f3 : w3.cell? ⟨wo.heap.size, 3, none⟩ = some (.int .i64 q0) := y3.read 3
                  have f0 : w3.cell? ⟨w.heap.size, 1, none⟩ = some (.int .u32 va) := s3.shape.read 1
                  have f2 : w3.cell? ⟨w.heap.size, 2, none⟩ = some (.int .i64 en) := s3.shape.read 2
                  have T4 := Lib.hid (s3.more (.cells #[.string s, .int .u64 (0), .bool false] 47))
                  clear sx sy yA b3 e3 s3 y3 a0 a1 a2 a3 c2'
                  go_wp2_with fail
                  go_roundw
                  case rel => exact ⟨k + 1, true, t, s, _, _, by omega, by go_num, rfl, rfl, rfl, T4.out, ht⟩
                  case measure => simp [intOf]; omega
                · have p7 : at_ < t := by omega
                  go_wp2_with fail
                  refine (read_at sy.one q0 q0 rfl hin1 (by omega) at_ ht ht0 ht1 hv0 hv1 0 false Hp.out Hs.out).mono ?_
                  rintro e w3 ⟨rfl, b3, e3⟩
                  have s3 := sy.read e3 b3
                  have y3 := yA.only e3 (by omega)
                  have l3 := s3.shape.inHeap
                  have l4 := y3.inHeap
                  have f1 : w3.cell? ⟨wo.heap.size, 1, none⟩ = some (.int .u64 at_) := y3.read 1
                  have f3 : w3.cell? ⟨wo.heap.size, 3, none⟩ = some (.int .i64 q0) := y3.read 3
                  have f0 : w3.cell? ⟨w.heap.size, 1, none⟩ = some (.int .u32 va) := s3.shape.read 1
                  have f2 : w3.cell? ⟨w.heap.size, 2, none⟩ = some (.int .i64 en) := s3.shape.read 2
                  have T4 := Lib.hid (s3.more (.cells #[.string s, .int .u64 (0), .bool false] 47))
                  clear sx sy yA b3 e3 s3 y3 a0 a1 a2 a3 c2'
                  go_wp2_with fail
                  go_roundw
                  case rel => exact ⟨k + 1, true, t, s, _, _, by omega, by go_num, rfl, rfl, rfl, T4.out, ht⟩
                  case measure => simp [intOf]; omega
          · by_cases q1 : ak < 0
            · go_wp2_with fail
              refine (read_out sy.one ak (by omega) at_).mono ?_
              rintro e w3 ⟨rfl, e3⟩
              have s3 := sy.later e3
              have y3 := yA.over e3 yA.inHeap
              have l3 := s3.shape.inHeap
              have l4 := y3.inHeap
              have f3 : w3.cell? ⟨wo.heap.size, 3, none⟩ = some (.int .i64 ak) := y3.read 3
              have f2 : w3.cell? ⟨w.heap.size, 2, none⟩ = some (.int .i64 en) := s3.shape.read 2
              have T4 := Lib.hid (s3.more (.cells #[.string ⟨#[]⟩, .int .u64 0, .bool false] 47))
              clear sx sy yA e3 s3 y3 a0 a1 a2 a3 c2'
              go_wp2_with fail
              go_roundw
              case rel => exact ⟨k + 1, has, t, s, _, _, by omega, by go_num, rfl, rfl, rfl, T4.out, ht⟩
              case measure => simp [intOf]; omega
            · have q2 : en ≤ ak := by omega
              go_wp2_with fail
              refine (read_out sy.one ak (by omega) at_).mono ?_
              rintro e w3 ⟨rfl, e3⟩
              have s3 := sy.later e3
              have y3 := yA.over e3 yA.inHeap
              have l3 := s3.shape.inHeap
              have l4 := y3.inHeap
              have f3 : w3.cell? ⟨wo.heap.size, 3, none⟩ = some (.int .i64 ak) := y3.read 3
              have f2 : w3.cell? ⟨w.heap.size, 2, none⟩ = some (.int .i64 en) := s3.shape.read 2
              have T4 := Lib.hid (s3.more (.cells #[.string ⟨#[]⟩, .int .u64 0, .bool false] 47))
              clear sx sy yA e3 s3 y3 a0 a1 a2 a3 c2'
              go_wp2_with fail
              go_roundw
              case rel => exact ⟨k + 1, has, t, s, _, _, by omega, by go_num, rfl, rfl, rfl, T4.out, ht⟩
              case measure => simp [intOf]; omega
      · by_cases hin : 0 ≤ z ∧ z < en
        · obtain ⟨hin0, hin1⟩ := hin
          obtain ⟨q0, rfl⟩ : ∃ q0 : Nat, z = q0 := ⟨z.toNat, by omega⟩
          cases has
          · go_wp2_with fail
            refine (read_none sx.one q0 hin0 hin1 1099511627776).mono ?_
            rintro e w3 ⟨rfl, e3⟩
            have s3 := (sx.later e3).more (.cells #[.string ⟨#[]⟩, .int .u64 0, .bool false] 47)
            have x3 : Box (w3.alloc (.cells #[.string ⟨#[]⟩, .int .u64 0, .bool false] 47)) w3.heap.size 47 #[.string ⟨#[]⟩, .int .u64 0, .bool false] := Box.made _ _ _
            clear sx e3
            go_wp2_with fail
            refine (read_none s3.other q0 hin0 hin1 1099511627776).mono ?_
            rintro e w4 ⟨rfl, e4⟩
            have s4 := s3.later e4
            have x4 := x3.over e4 x3.inHeap
            have l4 := x4.inHeap
            have y0 : w4.cell? ⟨w3.heap.size, 0, none⟩ = some (.string ⟨#[]⟩) := x4.read 0
            have y1 : w4.cell? ⟨w3.heap.size, 1, none⟩ = some (.int .u64 0) := x4.read 1
            have y2 : w4.cell? ⟨w3.heap.size, 2, none⟩ = some (.bool false) := x4.read 2
            clear s3 x3 e4 x4
            go_wp2_with fail
            refine (works_any _).mono ?_
            rintro e w8 ⟨rfl, e8⟩
            go_wp2_with fail
            go_ret
            have d4 : Below w.heap.size w w4 := s4.below
            exact ⟨rfl, (d4.alloc (Nat.le_of_lt s4.shape.inHeap) _).trans (e8.mono (by have := s4.shape.inHeap; simp; omega))⟩
          · obtain ⟨a, ha⟩ : ∃ a, ageOf t 1099511627776 = a := ⟨_, rfl⟩
            have Ha := Lib.hid ha
            clear ha
            obtain ⟨st, hst⟩ : ∃ st, decide (va < a) = st := ⟨_, rfl⟩
            have Hs := Lib.hid hst
            clear hst
            go_wp2_with fail
            refine (read_at sx.one q0 q0 rfl hin1 (by omega) 1099511627776 ht (by decide) (by decide) hv0 hv1 a st Ha.out Hs.out).mono ?_
            rintro e w3 ⟨rfl, b3, e3⟩
            have s3 := (sx.read e3 b3).more (.cells #[.string s, .int .u64 a, .bool st] 47)
            have x3 : Box (w3.alloc (.cells #[.string s, .int .u64 a, .bool st] 47)) w3.heap.size 47 #[.string s, .int .u64 a, .bool st] := Box.made _ _ _
            have l3 := (sx.read e3 b3).other.inHeap
            clear sx b3 e3
            go_wp2_with fail
            refine (read_at s3.other q0 q0 rfl hin1 (by omega) 1099511627776 ht (by decide) (by decide) hv0 hv1 a st Ha.out Hs.out).mono ?_
            rintro e w4 ⟨rfl, b4, e4⟩
            have s4 : Two w w.heap.size mo va en true t s _ _ w4 := ⟨s3.one.only e4 (by omega), b4, s3.shape.only e4 (by omega), s3.below.trans (e4.below (by omega) (Nat.le_of_lt s3.shape.inHeap))⟩
            have x4 := x3.only e4 (by omega)
            have l4 := x4.inHeap
            have y0 : w4.cell? ⟨w3.heap.size, 0, none⟩ = some (.string s) := x4.read 0
            have y1 : w4.cell? ⟨w3.heap.size, 1, none⟩ = some (.int .u64 a) := x4.read 1
            have y2 : w4.cell? ⟨w3.heap.size, 2, none⟩ = some (.bool st) := x4.read 2
            clear s3 x3 b4 e4 x4
            go_wp2_with fail
            refine (works_any _).mono ?_
            rintro e w8 ⟨rfl, e8⟩
            go_wp2_with fail
            go_ret
            have d4 : Below w.heap.size w w4 := s4.below
            exact ⟨rfl, (d4.alloc (Nat.le_of_lt s4.shape.inHeap) _).trans (e8.mono (by have := s4.shape.inHeap; simp; omega))⟩
        · have ho : z < 0 ∨ en ≤ z := by omega
          have Ho := Lib.hid ho
          clear ho
          go_wp2_with fail
          refine (read_out sx.one z Ho.out 1099511627776).mono ?_
          rintro e w3 ⟨rfl, e3⟩
          have s3 := (sx.later e3).more (.cells #[.string ⟨#[]⟩, .int .u64 0, .bool false] 47)
          have x3 : Box (w3.alloc (.cells #[.string ⟨#[]⟩, .int .u64 0, .bool false] 47)) w3.heap.size 47 #[.string ⟨#[]⟩, .int .u64 0, .bool false] := Box.made _ _ _
          clear sx e3
          go_wp2_with fail
          refine (read_out s3.other z Ho.out 1099511627776).mono ?_
          rintro e w4 ⟨rfl, e4⟩
          have s4 := s3.later e4
          have x4 := x3.over e4 x3.inHeap
          have l4 := x4.inHeap
          have y0 : w4.cell? ⟨w3.heap.size, 0, none⟩ = some (.string ⟨#[]⟩) := x4.read 0
          have y1 : w4.cell? ⟨w3.heap.size, 1, none⟩ = some (.int .u64 0) := x4.read 1
          have y2 : w4.cell? ⟨w3.heap.size, 2, none⟩ = some (.bool false) := x4.read 2
          clear s3 x3 e4 x4
          go_wp2_with fail
          refine (works_any _).mono ?_
          rintro e w8 ⟨rfl, e8⟩
          go_wp2_with fail
          go_ret
          have d4 : Below w.heap.size w w4 := s4.below
          exact ⟨rfl, (d4.alloc (Nat.le_of_lt s4.shape.inHeap) _).trans (e8.mono (by have := s4.shape.inHeap; simp; omega))⟩
end
end Go.Proofs.Ytaeebbcjofkjlaa
