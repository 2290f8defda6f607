/- The two memories, act by act. -/
import Derived.Test.YtjdedgfbonlmkaaDk
set_option linter.unusedVariables false
set_option linter.unusedSimpArgs false
namespace Go.Proofs.Ytjdedgfbonlmkaa
open Go.RowKit
section
variable {w wr w' w1 w2 : World} {B g C N W A D base : Nat} {l : List UInt8}
theorem pm_copy (h : Pm wr B g C N W A D l base) : Calls Try.prog 13 #[.pointer (some ⟨B, 0, none⟩)] wr fun e w1 => e = .returned (.pointer (some ⟨wr.heap.size + 1, 0, none⟩)) ∧ Below wr.heap.size wr w1 ∧
    Hid (Calls Try.prog 14 #[.pointer (some ⟨C, 0, none⟩)] w1 fun e w2 => ∃ C2, e = .returned (.pointer (some ⟨C2, 0, none⟩)) ∧ Below w1.heap.size w1 w2 ∧
      Hid (Calls Try.prog 15 #[.pointer (some ⟨B, 0, none⟩)] w2 fun e w3 => e = .returned (.tuple #[]) ∧ wr.heap.size ≤ C2 ∧ Pm w3 (wr.heap.size + 1) wr.heap.size C2 N W A D l base ∧ Touch (Own2 B g) w2 w3)) := by
  refine (mcopy_any h.rm).mono ?_
  rintro e w1 ⟨rfl, hr1, hb1, hs1⟩
  refine ⟨rfl, hb1, Lib.hid ?_⟩
  have h1 := h.over hb1
  obtain ⟨L, v, hd⟩ := h1.dm
  refine (dcopy_any hd).mono ?_
  rintro e w2 ⟨rfl, ⟨v2, hd2⟩, hb2, hs2⟩
  refine ⟨_, rfl, hb2, Lib.hid ?_⟩
  have hBl := h.rm.box.inHeap
  have hgl := h.rm.mem.inHeap
  have hrm2 := h1.rm.over hb2
  refine (clear_any hrm2).mono ?_
  rintro e w3 ⟨rfl, hr3, ht3⟩
  have hn2 := hr1.over hb2
  refine ⟨rfl, by omega, ⟨⟨hn2.box.touch ht3 (by rintro (h | h) <;> omega), hn2.mem.touch ht3 (by rintro (h | h) <;> omega), hn2.len, hn2.big, hn2.top, hn2.at1⟩, ⟨L, v2, hd2.touch ht3 hrm2 (by omega) (by omega)⟩, h.e1, h.e2, by omega, by omega⟩, ht3⟩
/-- How things stand behind some acts. -/
def Rs (w wr : World) (B C N : Nat) : Prop := ∃ g W A D l, Pm wr B g C N W A D l w.heap.size ∧ Below w.heap.size w wr ∧ w.heap.size ≤ B ∧ w.heap.size ≤ g ∧ w.heap.size ≤ C
theorem Rs.over (h : Rs w wr B C N) (k : Below wr.heap.size wr w') : Rs w w' B C N := by
  obtain ⟨g, W, A, D, l, hp, hb, h1, h2, h3⟩ := h
  exact ⟨g, W, A, D, l, hp.over k, hb.trans (k.mono hb.size), h1, h2, h3⟩
theorem Rs.drawn (h : Rs w wr B C N) (n : Nat) : Rs w (wr.drewN n) B C N := h.over (below_drewN (Below.refl _ _) n)
theorem Rs.below (h : Rs w wr B C N) : Below w.heap.size w wr := by obtain ⟨g, W, A, D, l, hp, hb, h1, h2, h3⟩ := h; exact hb
theorem Rs.one (h : Rs w wr B C N) (q a x : Nat) (z : Int) (s : ByteArray) (hq : q < 256) (ha : a < 18446744073709551616) (hx : x < 18446744073709551616) (hs : s.size ≤ 100) : Calls Try.prog 16 #[.pointer (some ⟨B, 0, none⟩), .pointer (some ⟨C, 0, none⟩), .agg #[.int .u8 q, .int .u64 a, .int .u64 x, .int .i64 z, .string s]] wr fun e w' => e = .returned (.bool true) ∧ Rs w w' B C N := by
  obtain ⟨g, W, A, D, l, hp, hb, h1, h2, h3⟩ := h
  refine (one_any hp q a x z s hq ha hx hs).mono ?_
  rintro e w' ⟨rfl, W', A', D', l', hp', hf⟩
  exact ⟨rfl, g, W', A', D', l', hp', hb.trans (hf.below h1 h2 h3 (Nat.le_refl _) hb.size), h1, h2, h3⟩
theorem Rs.copy (h : Rs w wr B C N) : Calls Try.prog 13 #[.pointer (some ⟨B, 0, none⟩)] wr fun e w1 => ∃ B2, e = .returned (.pointer (some ⟨B2, 0, none⟩)) ∧ Below w.heap.size w w1 ∧
    Hid (Calls Try.prog 14 #[.pointer (some ⟨C, 0, none⟩)] w1 fun e w2 => ∃ C2, e = .returned (.pointer (some ⟨C2, 0, none⟩)) ∧ Below w.heap.size w w2 ∧
      Hid (Calls Try.prog 15 #[.pointer (some ⟨B, 0, none⟩)] w2 fun e w3 => e = .returned (.tuple #[]) ∧ Rs w w3 B2 C2 N)) := by
  obtain ⟨g, W, A, D, l, hp, hb, h1, h2, h3⟩ := h
  refine (pm_copy hp).mono ?_
  rintro e w1 ⟨rfl, hb1, hk1⟩
  have hs := hb.size
  have hw1 := hb.trans (hb1.mono hs)
  refine ⟨_, rfl, hw1, Lib.hid (hk1.out.mono ?_)⟩
  rintro e w2 ⟨C2, rfl, hb2, hk2⟩
  have hw2 := hw1.trans (hb2.mono hw1.size)
  refine ⟨C2, rfl, hw2, Lib.hid (hk2.out.mono ?_)⟩
  rintro e w3 ⟨rfl, hc, hp3, ht3⟩
  exact ⟨rfl, _, W, A, D, l, hp3, hw2.trans (ht3.below (by rintro k (rfl | rfl) <;> assumption) hw2.size), by omega, by omega, by omega⟩
theorem Rs.helds (h : Rs w wr B C N) (a : Nat) (z : Int) : ∃ b, (∀ n, Calls Try.prog 17 #[.pointer (some ⟨B, 0, none⟩), .int .u64 a, .int .i64 z] (wr.drewN n) fun e w' => e = .returned (.bool b) ∧ w' = wr.drewN n) ∧ (∀ n, Calls Try.prog 18 #[.pointer (some ⟨C, 0, none⟩), .int .u64 a, .int .i64 z] (wr.drewN n) fun e w' => e = .returned (.bool b) ∧ w' = wr.drewN n) := by
  obtain ⟨g, W, A, D, l, hp, hb, h1, h2, h3⟩ := h
  exact ⟨hdB W A a z, fun n => pm_held (hp.over (below_drewN (Below.refl _ _) n)) a z, fun n => pm_dheld (hp.over (below_drewN (Below.refl _ _) n)) a z⟩
end
end Go.Proofs.Ytjdedgfbonlmkaa
