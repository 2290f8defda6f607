/- One act with both channels: Read. -/
import Derived.Test.YtgicehhenahfpaaDoorAe
set_option linter.unusedVariables false
set_option linter.unusedSimpArgs false
namespace Go.Proofs.YtgicehhenahfpaaDoor
open Go.RowKit
attribute [local go_sem] Oper.semAt_some
section
variable {m v : Int} {n c B C H : Nat} {w : World} {o : Option (Nat × ByteArray × List Int)}
set_option maxHeartbeats 1000000 in
theorem one_read (h : Pr w C B H m v n c o) (hCH : C < H) (hn : n ≤ 16) (hc : c ≤ 1048576) (hv0 : 0 ≤ v) (hv1 : v ≤ 4294967295) (k a : Nat) (s : ByteArray) (z : Int) (hk : k < 256) (h2 : ¬ k % 5 < 2) (ha : a < 18446744073709551616) :
    Calls Tryd.prog 12 #[.pointer (some ⟨C, 0, none⟩), .pointer (some ⟨B, 0, none⟩), .agg #[.int .u8 k, .int .u64 a, .string s, .int .i64 z]] w fun e w' => e = .returned (.bool true) ∧ ∃ o', Pr w' C B H m v n (c + 1) o' ∧ Touch (Kq C B H) w w' := by
  have hN := Box.made w 39 #[.int .u8 k, .int .u64 a, .string s, .int .i64 z]
  have hP0 : Pr (w.alloc (.cells #[.int .u8 k, .int .u64 a, .string s, .int .i64 z] 39)) C B H m v n c o := h.below ((Below.refl _ _).alloc (Nat.le_refl _) _)
  have hC := h.prog.inHeap
  have b0 : (w.alloc (.cells #[.int .u8 k, .int .u64 a, .string s, .int .i64 z] 39)).cell? ⟨w.heap.size, 0, none⟩ = some (.int .u8 k) := hN.read 0
  have b1 : (w.alloc (.cells #[.int .u8 k, .int .u64 a, .string s, .int .i64 z] 39)).cell? ⟨w.heap.size, 1, none⟩ = some (.int .u64 a) := hN.read 1
  have b3 : (w.alloc (.cells #[.int .u8 k, .int .u64 a, .string s, .int .i64 z] 39)).cell? ⟨w.heap.size, 3, none⟩ = some (.int .i64 z) := hN.read 3
  have HP := Lib.hid hP0
  have HN := Lib.hid hN
  have hm1 : (k : Int) % 5 = ((k % 5 : Nat) : Int) := rfl
  have hm2 : (k : Int).tmod 5 = ((k % 5 : Nat) : Int) := rfl
  have hm3 : ¬ ((k % 5 : Nat) : Int) < 2 := by omega
  generalize k % 5 = r at hm1 hm2 hm3 h2
  clear hP0 hN h
  go_enter Tryd.func12, Tryd.ntmps12
  go_wp2_with (first
    | (go_at_call 20; refine (read_pair HP.out hCH hn hc hv0 hv1 z a ha).mono ?_; rintro e w1 ⟨s1, age, sl, q, rfl, hO, HW⟩; simp only [got]; have hN1 : Box w1 w.heap.size 39 _ := HN.out.only hO (by omega); have d1 : ∀ o, (w1.alloc o).cell? ⟨w.heap.size, 1, none⟩ = some (.int .u64 a) := fun o => (hN1.more o).read 1; have d3 : ∀ o, (w1.alloc o).cell? ⟨w.heap.size, 3, none⟩ = some (.int .i64 z) := fun o => (hN1.more o).read 3; have HO := Lib.hid hO; clear hO hN1)
    | (go_at_call 24; refine (HW.out _ ((Below.refl _ _).alloc (Nat.le_refl _) _)).mono ?_; rintro e w2 ⟨rfl, hX, o2, hP2, hT2⟩; simp only [ans]; have hX2 := hX _ _ (Box.made w1 51 #[.string s1, .int .u64 age, .bool sl]); have x0 : w2.cell? ⟨w1.heap.size, 0, none⟩ = some (.string s1) := hX2.read 0; have x1 : w2.cell? ⟨w1.heap.size, 1, none⟩ = some (.int .u64 age) := hX2.read 1; have x2 : w2.cell? ⟨w1.heap.size, 2, none⟩ = some (.bool sl) := hX2.read 2; have HT := Lib.hid (And.intro hP2 hT2); clear hP2 hT2 hX hX2))
  go_ret
  refine ⟨rfl, ⟨o2, HT.out.1⟩, ?_⟩
  have t1 : Touch (Kq C B H) w (w1.alloc (.cells #[.string s1, .int .u64 age, .bool sl] 51)) := ⟨HO.out.os, HO.out.tape, HO.out.output, Nat.le_trans (Nat.le_trans (by simp) HO.out.size) (by simp), fun i hi hn => (Below.heap_alloc w1 _ i (Nat.lt_of_lt_of_le (Nat.lt_of_lt_of_le hi (by simp)) HO.out.size)).trans ((HO.out.block i (Nat.lt_of_lt_of_le hi (by simp)) (fun e => hn (.inl e))).trans (Below.heap_alloc w _ i hi))⟩
  exact t1.trans (HT.out.2.mono fun i hi => .inl (by rcases hi with e | e; exact .inr (.inl e); exact .inr (.inr e)))
end
end Go.Proofs.YtgicehhenahfpaaDoor
