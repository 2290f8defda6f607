/- one: a call of both memories. -/
import Derived.Test.YtjdedgfbonlmkaaDi
set_option linter.unusedVariables false
set_option linter.unusedSimpArgs false
namespace Go.Proofs.Ytjdedgfbonlmkaa
open Go.RowKit
def Out (wr w2 : World) (B g C N base : Nat) : Prop := ∃ W A D l, Pm w2 B g C N W A D l base ∧ Fr B g C base wr w2
section
variable {wr w1 w2 : World} {B g C N W A D base : Nat} {l : List UInt8}
theorem Out.after {w0 : World} (h : Out wr w2 B g C N base) (k : Below w0.heap.size w0 wr) : Out w0 w2 B g C N base := by
  obtain ⟨W, A, D, l, h1, h2⟩ := h
  exact ⟨W, A, D, l, h1, (Fr.ofBelow k).trans h2⟩
theorem Pm.same (h : Pm wr B g C N W A D l base) (k : Below wr.heap.size wr w2) : Out wr w2 B g C N base := ⟨W, A, D, l, h.over k, Fr.ofBelow k⟩
theorem pm_write (h : Pm wr B g C N W A D l base) (a x : Nat) (z : Int) (hx : x < 18446744073709551616) : Calls Try.prog 24 #[.pointer (some ⟨B, 0, none⟩), .int .u64 a, .int .u64 x, .int .i64 z] wr fun e w1 => e = .returned (.bool (wrB N a z)) ∧ Touch (Own2 B g) wr w1 ∧
    Hid (Calls Try.prog 32 #[.pointer (some ⟨C, 0, none⟩), .int .u64 a, .int .u64 x, .int .i64 z] w1 fun e w2 => e = .returned (.bool (wrB N a z)) ∧ Out wr w2 B g C N base) := by
  refine (write_any h.rm a x z hx).mono ?_
  rintro e w1 ⟨rfl, hr, ht⟩
  refine ⟨rfl, ht, Lib.hid ?_⟩
  have hm := h.mid hr ht
  obtain ⟨L, v, hd⟩ := hm.dm
  refine (dwrite_any hd a x z hx).mono ?_
  rintro e w2 ⟨rfl, hd2⟩
  rw [← gone_eq h.e1] at hd2
  obtain ⟨p1, p2⟩ := hm.done hd2 (gone_e1 h.e1 _) (gone_e2 h.e2 _)
  exact ⟨rfl, _, _, _, _, p1, p2⟩
theorem pm_put (h : Pm wr B g C N W A D l base) (a : Nat) (s : ByteArray) (hs : s.size ≤ 9223372036854775807) : Calls Try.prog 23 #[.pointer (some ⟨B, 0, none⟩), .int .u64 a, .string s] wr fun e w1 => e = .returned (.int .i64 (putE (putB N a s.size))) ∧ Touch (Own2 B g) wr w1 ∧
    Hid (Calls Try.prog 33 #[.pointer (some ⟨C, 0, none⟩), .int .u64 a, .string s] w1 fun e w2 => e = .returned (.int .i64 (putE (putB N a s.size))) ∧ Out wr w2 B g C N base) := by
  refine (put_any h.rm a s hs).mono ?_
  rintro e w1 ⟨rfl, hr, ht⟩
  refine ⟨rfl, ht, Lib.hid ?_⟩
  have hm := h.mid hr ht
  obtain ⟨L, v, hd⟩ := hm.dm
  refine (dput_any hd a s hs).mono ?_
  rintro e w2 ⟨rfl, hd2⟩
  rw [← gone_eq h.e1] at hd2
  obtain ⟨p1, p2⟩ := hm.done hd2 (gone_e1 h.e1 _) (gone_e2 h.e2 _)
  exact ⟨rfl, _, _, _, _, p1, p2⟩
theorem pm_reserve (h : Pm wr B g C N W A D l base) (a : Nat) (z : Int) (ha : a < 18446744073709551616) : Calls Try.prog 27 #[.pointer (some ⟨B, 0, none⟩), .int .u64 a, .int .i64 z] wr fun e w1 => e = .returned (.bool (resB N a z)) ∧ Touch (Own2 B g) wr w1 ∧
    Hid (Calls Try.prog 35 #[.pointer (some ⟨C, 0, none⟩), .int .u64 a, .int .i64 z] w1 fun e w2 => e = .returned (.bool (resB N a z)) ∧ Out wr w2 B g C N base) := by
  refine (reserve_any h.rm a z ha).mono ?_
  rintro e w1 ⟨rfl, hr, ht⟩
  refine ⟨rfl, ht, Lib.hid ?_⟩
  have hm := h.mid hr ht
  obtain ⟨L, v, hd⟩ := hm.dm
  refine (dreserve_any hd a z ha).mono ?_
  rintro e w2 ⟨rfl, hd2⟩
  obtain ⟨p1, p2⟩ := hm.done hd2 (by
    unfold took
    split
    · intro _; rfl
    · exact h.e1) (by
    unfold took
    split
    · rename_i hb
      have := of_decide_eq_true hb
      intro h0
      omega
    · exact h.e2)
  exact ⟨rfl, _, _, _, _, p1, p2⟩
theorem pm_clear (h : Pm wr B g C N W A D l base) : Calls Try.prog 15 #[.pointer (some ⟨B, 0, none⟩)] wr fun e w1 => e = .returned (.tuple #[]) ∧ Touch (Own2 B g) wr w1 ∧
    Hid (Calls Try.prog 36 #[.pointer (some ⟨C, 0, none⟩)] w1 fun e w2 => e = .returned (.tuple #[]) ∧ Out wr w2 B g C N base) := by
  refine (clear_any h.rm).mono ?_
  rintro e w1 ⟨rfl, hr, ht⟩
  refine ⟨rfl, ht, Lib.hid ?_⟩
  have hm := h.mid hr ht
  obtain ⟨L, v, hd⟩ := hm.dm
  refine (dclear_any hd).mono ?_
  rintro e w2 ⟨rfl, hd2⟩
  obtain ⟨p1, p2⟩ := hm.done hd2 (fun h => absurd h (by decide)) (fun _ => rfl)
  exact ⟨rfl, _, _, _, _, p1, p2⟩
theorem pm_drop (h : Pm wr B g C N W A D l base) : Calls Try.prog 28 #[.pointer (some ⟨B, 0, none⟩)] wr fun e w1 => e = .returned (.tuple #[]) ∧ Touch (Own2 B g) wr w1 ∧
    Hid (w1.frozen? ⟨C, 3, none⟩ = false ∧ (∃ v, w1.cell? ⟨C, 3, none⟩ = some v) ∧ Out wr (w1.setCell ⟨C, 3, none⟩ (.int .i64 0)) B g C N base) := by
  refine (drop_any h.rm).mono ?_
  rintro e w1 ⟨rfl, hr, ht⟩
  have hm := h.mid hr ht
  obtain ⟨L, v, hd⟩ := hm.dm
  obtain ⟨p1, p2⟩ := hm.done ⟨⟨_, _, hd.drop⟩, (Dt.refl _ _ _).put 3 _⟩ (fun h => absurd h (by decide)) (fun _ => rfl)
  exact ⟨rfl, ht, Lib.hid ⟨hd.box.warm 3, ⟨_, hd.box.read 3⟩, _, _, _, _, p1, p2⟩⟩
theorem pm_read (h : Pm wr B g C N W A D l base) (a : Nat) (z : Int) : Calls Try.prog 26 #[.pointer (some ⟨B, 0, none⟩), .int .u64 a, .int .i64 z] wr fun e w1 => e = .returned (.tuple #[.int .u64 (rdV l N a z : Nat), .bool (rdB N a z)]) ∧ Touch (Own2 B g) wr w1 ∧
    Hid (Calls Try.prog 31 #[.pointer (some ⟨C, 0, none⟩), .int .u64 a, .int .i64 z] w1 fun e w2 => e = .returned (.tuple #[.int .u64 (rdV l N a z : Nat), .bool (rdB N a z)]) ∧ Out wr w2 B g C N base) := by
  refine (mread_any h.rm a z).mono ?_
  rintro e w1 ⟨rfl, k, rfl⟩
  refine ⟨rfl, (Touch.refl _ _).drawn k, Lib.hid ?_⟩
  obtain ⟨L, v, hd⟩ := (h.over (below_drewN (Below.refl _ _) k)).dm
  refine (dread_any hd a z).mono ?_
  rintro e w2 ⟨rfl, rfl⟩
  exact ⟨rfl, h.same (below_drewN (Below.refl _ _) k)⟩
theorem pm_bytes (h : Pm wr B g C N W A D l base) (a n : Nat) : Calls Try.prog 19 #[.pointer (some ⟨B, 0, none⟩), .int .u64 a, .int .u64 n] wr fun e w1 => e = .returned (.tuple #[.string (byS l N a n), .int .i64 (byE N a n)]) ∧ Touch (Own2 B g) wr w1 ∧
    Hid (Calls Try.prog 34 #[.pointer (some ⟨C, 0, none⟩), .int .u64 a, .int .u64 n] w1 fun e w2 => e = .returned (.tuple #[.string (byS l N a n), .int .i64 (byE N a n)]) ∧ Out wr w2 B g C N base) := by
  refine (mbytes_any h.rm a n).mono ?_
  rintro e w1 ⟨rfl, rfl⟩
  refine ⟨rfl, Touch.refl _ _, Lib.hid ?_⟩
  obtain ⟨L, v, hd⟩ := h.dm
  refine (dbytes_any hd a n).mono ?_
  rintro e w2 ⟨rfl, hb⟩
  exact ⟨rfl, h.same hb⟩
def hdB (W A a : Nat) (z : Int) : Bool := decide (0 < z ∧ A = a ∧ (W : Int) = z)
theorem pm_held (h : Pm wr B g C N W A D l base) (a : Nat) (z : Int) : Calls Try.prog 17 #[.pointer (some ⟨B, 0, none⟩), .int .u64 a, .int .i64 z] wr fun e w' => e = .returned (.bool (hdB W A a z)) ∧ w' = wr := by
  refine (held_any h.rm a z).mono ?_
  rintro e w' ⟨rfl, rfl⟩
  exact ⟨rfl, rfl⟩
theorem pm_dheld (h : Pm wr B g C N W A D l base) (a : Nat) (z : Int) : Calls Try.prog 18 #[.pointer (some ⟨C, 0, none⟩), .int .u64 a, .int .i64 z] wr fun e w' => e = .returned (.bool (hdB W A a z)) ∧ w' = wr := by
  obtain ⟨L, v, hd⟩ := h.dm
  refine (dheld_any hd a z).mono ?_
  rintro e w' ⟨rfl, rfl⟩
  refine ⟨bool_eq (decide_eq_decide.2 ?_), rfl⟩
  have h1 := h.e1
  constructor
  · rintro ⟨p1, p2, p3⟩
    exact ⟨by omega, by rw [h1 p1]; exact p2, p3⟩
  · rintro ⟨p1, p2, p3⟩
    have p4 : 0 < W := by omega
    exact ⟨p4, by rw [← h1 p4]; exact p2, p3⟩
end
end Go.Proofs.Ytjdedgfbonlmkaa
