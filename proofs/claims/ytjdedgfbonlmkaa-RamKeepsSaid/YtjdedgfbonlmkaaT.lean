/- RamKeeps: how things stand. -/
import Derived.Test.YtjdedgfbonlmkaaS
set_option linter.unusedVariables false
set_option linter.unusedSimpArgs false
namespace Go.Proofs.Ytjdedgfbonlmkaa
open Go.RowKit
/-- The memory beside the boxed argument. -/
structure Kp (w : World) (P : Nat) (cs : Array Value) (B g : Nat) (l : List UInt8) (wr : World) : Prop where
  rm : ∃ A W, Rm wr B g 4096 A W l
  box : Box wr P 52 cs
  bel : Below w.heap.size w wr
  lo : ∀ b, Own2 B g b → w.heap.size ≤ b
  ne : ¬ Own2 B g P
section
variable {w wr w2 : World} {P B g : Nat} {cs : Array Value} {l : List UInt8}
theorem Kp.over (h : Kp w P cs B g l wr) (hb : Below wr.heap.size wr w2) : Kp w P cs B g l w2 := by
  obtain ⟨⟨A, W, h1⟩, h2, h3, h4, h5⟩ := h
  exact ⟨⟨A, W, h1.box.over hb h1.box.inHeap, h1.mem.over hb h1.mem.inHeap, h1.len, h1.big, h1.top, h1.at1⟩, h2.over hb h2.inHeap, h3.trans (hb.mono h3.size), h4, h5⟩
theorem Kp.drawn (h : Kp w P cs B g l wr) (n : Nat) : Kp w P cs B g l (wr.drewN n) := by
  obtain ⟨⟨A, W, h1⟩, h2, h3, h4, h5⟩ := h
  exact ⟨⟨A, W, h1.drawn n⟩, h2.drawn n, below_drewN h3 n, h4, h5⟩
theorem Kp.next (h : Kp w P cs B g l wr) {A W : Nat} {l' : List UInt8} (hr : Rm w2 B g 4096 A W l') (ht : Touch (Own2 B g) wr w2) : Kp w P cs B g l' w2 :=
  ⟨⟨A, W, hr⟩, h.box.touch ht h.ne, h.bel.trans (ht.below h.lo h.bel.size), h.lo, h.ne⟩
theorem new_kp (w : World) (cs : Array Value) : Calls Try.prog 8 #[.int .i64 1] (w.alloc (.cells cs 52)) fun e w' => e = .returned (.pointer (some ⟨w.heap.size + 2, 0, none⟩)) ∧ Kp w w.heap.size cs (w.heap.size + 2) (w.heap.size + 1) (List.replicate 4096 0) w' := by
  have hz : (w.alloc (.cells cs 52)).heap.size = w.heap.size + 1 := by simp
  have h := new_one (w.alloc (.cells cs 52))
  rw [hz] at h
  refine h.mono fun e w' ⟨he, hr, hb, hs⟩ => ⟨he, ⟨_, _, hr⟩, (Box.made w 52 cs).over (hz ▸ hb) (by omega), ((Below.refl _ _).alloc (Nat.le_refl _) _).trans (Below.mono (hz ▸ hb) (by omega)), ?_, ?_⟩
  · rintro b (e | e) <;> omega
  · rintro (e | e) <;> omega
theorem put_kp (h : Kp w P cs B g (List.replicate 4096 0) wr) (s : ByteArray) (hs : s.size ≤ 4096) (L : List UInt8) (hL : splice (List.replicate 4096 0) 0 s.data.toList = L) : Calls Try.prog 23 #[.pointer (some ⟨B, 0, none⟩), .int .u64 0, .string s] wr fun e w' => e = .returned (.int .i64 0) ∧ Kp w P cs B g L w' := by
  obtain ⟨A, W, h1⟩ := h.rm
  have hp := put_good h1 0 s (by omega)
  rw [hL] at hp
  exact hp.mono fun e w' ⟨he, hr, ht⟩ => ⟨he, h.next hr ht⟩
theorem write_kp (h : Kp w P cs B g l wr) (a x n : Nat) (hx : x < 18446744073709551616) (hz : wrB 4096 a n = true) (L : List UInt8) (hL : lay l a x n = L) : Calls Try.prog 24 #[.pointer (some ⟨B, 0, none⟩), .int .u64 a, .int .u64 x, .int .i64 n] wr fun e w' => e = .returned (.bool true) ∧ Kp w P cs B g L w' := by
  obtain ⟨A, W, h1⟩ := h.rm
  have hw := write_any h1 a x n hx
  rw [hz, if_pos rfl, Int.toNat_natCast, hL] at hw
  exact hw.mono fun e w' ⟨he, hr, ht⟩ => ⟨he, h.next hr ht⟩
theorem write_kno (h : Kp w P cs B g l wr) (a x : Nat) (z : Int) (hx : x < 18446744073709551616) (hz : wrB 4096 a z = false) : Calls Try.prog 24 #[.pointer (some ⟨B, 0, none⟩), .int .u64 a, .int .u64 x, .int .i64 z] wr fun e w' => e = .returned (.bool false) ∧ Kp w P cs B g l w' := by
  obtain ⟨A, W, h1⟩ := h.rm
  have hw := write_any h1 a x z hx
  rw [hz, if_neg (by decide)] at hw
  exact hw.mono fun e w' ⟨he, hr, ht⟩ => ⟨he, h.next hr ht⟩
theorem bytes_kp (h : Kp w P cs B g l wr) : Calls Try.prog 19 #[.pointer (some ⟨B, 0, none⟩), .int .u64 0, .int .u64 4096] wr fun e w' => e = .returned (.tuple #[.string (str l), .int .i64 0]) ∧ wr = w' := by
  obtain ⟨A, W, h1⟩ := h.rm
  have hb := bytes_good h1 0 4096 (by omega)
  rw [List.drop_zero, List.take_of_length_le (by rw [h1.len]; exact Nat.le_refl _)] at hb
  exact hb
theorem reads_kp (h : Kp w P cs B g l wr) (a n x : Nat) (hn : n = 1 ∨ n = 2 ∨ n = 4 ∨ n = 8) (ha : a + n ≤ 4096) (hx : num l a n = x) : Calls Try.prog 25 #[.pointer (some ⟨B, 0, none⟩), .int .u64 a, .int .i64 n, .int .u64 x] wr fun e w' => e = .returned (.bool true) ∧ ∃ k, w' = wr.drewN k := by
  obtain ⟨A, W, h1⟩ := h.rm
  exact reads_good h1 a n x hn ha hx
theorem read_kp (h : Kp w P cs B g l wr) (o : Nat) (ho : o < 4096) : Calls Try.prog 26 #[.pointer (some ⟨B, 0, none⟩), .int .u64 o, .int .i64 1] wr fun e w' => e = .returned (.tuple #[.int .u64 (at8 l o), .bool true]) ∧ Kp w P cs B g l w' := by
  obtain ⟨A, W, h1⟩ := h.rm
  have hr := read_1 h1 o (by omega)
  have e : num l o 1 = at8 l o := by simp only [num, Nat.pow_zero, Nat.mul_one, Nat.zero_add, Nat.add_zero]
  rw [e] at hr
  refine hr.mono ?_
  rintro e w' ⟨he, n, rfl⟩
  exact ⟨he, h.drawn n⟩
theorem read_none (h : Kp w P cs B g l wr) (o : Nat) (ho : ¬ o < 4096) : Calls Try.prog 26 #[.pointer (some ⟨B, 0, none⟩), .int .u64 o, .int .i64 1] wr fun e w' => e = .returned (.tuple #[.int .u64 0, .bool false]) ∧ wr = w' := by
  obtain ⟨A, W, h1⟩ := h.rm
  have HM := Lib.hid h1
  have HT := Lib.hid (fun wx (hx : Rm wx B g 4096 A W l) => there_any hx o 1)
  rw [decide_eq_false (by omega)] at HT
  clear h h1 ho
  go_enter Try.func26, Try.ntmps26
  go_wp2_with (first | (go_at_call 47; refine (width_any _ _).mono ?_; rintro e w' ⟨rfl, rfl⟩) | (go_at_call 37; refine (HT.out _ HM.out).mono ?_; rintro e w' ⟨rfl, rfl⟩))
  go_ret2
  exact ⟨rfl, rfl⟩
end
end Go.Proofs.Ytjdedgfbonlmkaa
