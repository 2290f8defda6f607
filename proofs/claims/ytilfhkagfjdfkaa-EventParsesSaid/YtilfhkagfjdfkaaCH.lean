/- What is taken of a source: the program's Text, Take. -/
import Derived.Test.YtilfhkagfjdfkaaCG
set_option linter.unusedVariables false
set_option linter.unusedSimpArgs false
namespace Go.Proofs.Ytilfhkagfjdfkaa
open Go.RowKit
section
variable {w : World} {X S0 : Nat} {s : ByteArray} {p : Nat}
theorem piece_any (S0 : Nat) (p n : Nat) (s : ByteArray) (w : World) (hs : s.size ≤ 4611686018427387904) (hc : w.cell? ⟨S0, 0, none⟩ = some (.string s)) (hn : p + n ≤ s.size) : Calls Try.prog 39 #[.int .i64 p, .int .i64 n, .pointer (some ⟨S0, 0, none⟩)] w fun e w' => e = .returned (.string (s.extract p (p + n))) ∧ w' = w := by
  have g1 : (0 : Int) ≤ (p : Int) := Int.natCast_nonneg _
  have g2 : (p : Int) ≤ (p : Int) + (n : Int) := by omega
  have g3 : (p : Int) + (n : Int) ≤ (s.size : Int) := by omega
  have r1 : ∀ wx : World, (Instr.slice 9 (.string s) (some (.int .i64 (p : Int))) (some (.int .i64 ((p : Int) + (n : Int)))) none).run Try.prog wx = .ok (.string (s.extract p (p + n))) wx := fun wx => by
    have e1 : ((p : Int) + (n : Int)).toNat = p + n := by omega
    have g4 : (0 : Int) ≤ (p : Int) + (n : Int) := by omega
    rw [run_slice_string_if (h := Try.underlying9), if_pos ⟨g4, g3⟩, if_pos ⟨g1, g2⟩, e1]; simp
  go_enter Try.func39, Try.ntmps39
  go_wp2
  go_ret
  exact ⟨rfl, rfl⟩
theorem src_eq {S0 : Nat} {a a' b b' : Int} {t : Bool} (e1 : a = a') (e2 : b = b') : src S0 a b t = src S0 a' b' t := by rw [e1, e2]
set_option maxHeartbeats 1000000 in
theorem text_okN (h : Src w X S0 s p false) (hs : s.size ≤ 4611686018427387904) (n : Nat) (hn : p + n ≤ s.size) : Calls Try.prog 52 #[.pointer (some ⟨X, 0, none⟩), .int .i64 n] w fun e w' => e = .returned (.string (s.extract p (p + n))) ∧ Src w' X S0 s (p + n) false ∧ Only X w w' := by
  have c0 : w.cell? ⟨X, 0, none⟩ = some (.func (.func 39) #[] #[.pointer (some ⟨S0, 0, none⟩)]) := h.box.read 0
  have c1 : w.cell? ⟨X, 1, none⟩ = some (.int .i64 p) := h.box.read 1
  have c2 : w.cell? ⟨X, 2, none⟩ = some (.int .i64 (s.size - p : Int)) := h.box.read 2
  have c3 : w.cell? ⟨X, 3, none⟩ = some (.bool false) := h.box.read 3
  have f1 : w.frozen? ⟨X, 1, none⟩ = false := h.box.warm 1
  have f2 : w.frozen? ⟨X, 2, none⟩ = false := h.box.warm 2
  have f3 : w.frozen? ⟨X, 3, none⟩ = false := h.box.warm 3
  go_enter Try.func52, Try.ntmps52
  go_wp2_with (go_at_call 40; refine (made_any h).mono ?_; rintro e w' ⟨rfl, rfl⟩)
  have ht : w.cell? ⟨S0, 0, none⟩ = some (.string s) := h.txt.read 0
  go_quiet ((go_at_call 39; exact Calls.quiet_of_same (piece_any S0 p n s _ hs (by simpa using ht) hn)))
  go_wp2
  go_ret
  refine ⟨rfl, ⟨?_, ((h.txt.drawn nq).putFar h.ne _).putFar h.ne _, h.ne, by omega⟩, ((((Only.refl X w).drawn nq).put (.inl rfl) _).put (.inl rfl) _)⟩
  refine box_eq (((h.box.drawn nq).put 1 _).put 2 _) ?_
  exact src_eq (by omega) (by omega)
set_option maxHeartbeats 1000000 in
theorem text_okV (h : Src w X S0 s p false) (hs : s.size ≤ 4611686018427387904) (v : Int) (hv : v < 0) (hn : p + 0 ≤ s.size) : Calls Try.prog 52 #[.pointer (some ⟨X, 0, none⟩), .int .i64 v] w fun e w' => e = .returned (.string (s.extract p (p + 0))) ∧ Src w' X S0 s (p + 0) false ∧ Only X w w' := by
  have c0 : w.cell? ⟨X, 0, none⟩ = some (.func (.func 39) #[] #[.pointer (some ⟨S0, 0, none⟩)]) := h.box.read 0
  have c1 : w.cell? ⟨X, 1, none⟩ = some (.int .i64 p) := h.box.read 1
  have c2 : w.cell? ⟨X, 2, none⟩ = some (.int .i64 (s.size - p : Int)) := h.box.read 2
  have c3 : w.cell? ⟨X, 3, none⟩ = some (.bool false) := h.box.read 3
  have f1 : w.frozen? ⟨X, 1, none⟩ = false := h.box.warm 1
  have f2 : w.frozen? ⟨X, 2, none⟩ = false := h.box.warm 2
  have f3 : w.frozen? ⟨X, 3, none⟩ = false := h.box.warm 3
  go_enter Try.func52, Try.ntmps52
  go_wp2_with (go_at_call 40; refine (made_any h).mono ?_; rintro e w' ⟨rfl, rfl⟩)
  have ht : w.cell? ⟨S0, 0, none⟩ = some (.string s) := h.txt.read 0
  go_quiet ((go_at_call 39; exact Calls.quiet_of_same (piece_any S0 p 0 s _ hs (by simpa using ht) hn)))
  go_wp2
  go_ret
  refine ⟨rfl, ⟨?_, ((h.txt.drawn nq).putFar h.ne _).putFar h.ne _, h.ne, by omega⟩, ((((Only.refl X w).drawn nq).put (.inl rfl) _).put (.inl rfl) _)⟩
  refine box_eq (((h.box.drawn nq).put 1 _).put 2 _) ?_
  exact src_eq (by omega) (by omega)
set_option maxHeartbeats 1000000 in
theorem text_tear (h : Src w X S0 s p false) (n : Nat) (hn : s.size < p + n) : Calls Try.prog 52 #[.pointer (some ⟨X, 0, none⟩), .int .i64 n] w fun e w' => e = .returned (.string ByteArray.empty) ∧ Src w' X S0 s p true ∧ Only X w w' := by
  have c0 : w.cell? ⟨X, 0, none⟩ = some (.func (.func 39) #[] #[.pointer (some ⟨S0, 0, none⟩)]) := h.box.read 0
  have c1 : w.cell? ⟨X, 1, none⟩ = some (.int .i64 p) := h.box.read 1
  have c2 : w.cell? ⟨X, 2, none⟩ = some (.int .i64 (s.size - p : Int)) := h.box.read 2
  have c3 : w.cell? ⟨X, 3, none⟩ = some (.bool false) := h.box.read 3
  have f1 : w.frozen? ⟨X, 1, none⟩ = false := h.box.warm 1
  have f2 : w.frozen? ⟨X, 2, none⟩ = false := h.box.warm 2
  have f3 : w.frozen? ⟨X, 3, none⟩ = false := h.box.warm 3
  have hp := h.le
  go_enter Try.func52, Try.ntmps52
  go_wp2_with (go_at_call 40; refine (made_any h).mono ?_; rintro e w' ⟨rfl, rfl⟩)
  go_ret
  exact ⟨rfl, ⟨box_eq (h.box.put 3 _) rfl, h.txt.putFar h.ne _, h.ne, h.le⟩, (Only.refl X w).put (.inl rfl) _⟩
set_option maxHeartbeats 1000000 in
theorem text_torn1 (h : Src w X S0 s p true) (n : Nat) (hn : s.size < p + n) : Calls Try.prog 52 #[.pointer (some ⟨X, 0, none⟩), .int .i64 n] w fun e w' => e = .returned (.string ByteArray.empty) ∧ Src w' X S0 s p true ∧ Only X w w' := by
  have c0 : w.cell? ⟨X, 0, none⟩ = some (.func (.func 39) #[] #[.pointer (some ⟨S0, 0, none⟩)]) := h.box.read 0
  have c1 : w.cell? ⟨X, 1, none⟩ = some (.int .i64 p) := h.box.read 1
  have c2 : w.cell? ⟨X, 2, none⟩ = some (.int .i64 (s.size - p : Int)) := h.box.read 2
  have c3 : w.cell? ⟨X, 3, none⟩ = some (.bool true) := h.box.read 3
  have f1 : w.frozen? ⟨X, 1, none⟩ = false := h.box.warm 1
  have f2 : w.frozen? ⟨X, 2, none⟩ = false := h.box.warm 2
  have f3 : w.frozen? ⟨X, 3, none⟩ = false := h.box.warm 3
  have hp := h.le
  go_enter Try.func52, Try.ntmps52
  go_wp2_with (go_at_call 40; refine (made_any h).mono ?_; rintro e w' ⟨rfl, rfl⟩)
  go_ret
  exact ⟨rfl, ⟨box_eq (h.box.put 3 _) rfl, h.txt.putFar h.ne _, h.ne, h.le⟩, (Only.refl X w).put (.inl rfl) _⟩
set_option maxHeartbeats 1000000 in
theorem text_torn2 (h : Src w X S0 s p true) (n : Nat) (hn : p + n ≤ s.size) : Calls Try.prog 52 #[.pointer (some ⟨X, 0, none⟩), .int .i64 n] w fun e w' => e = .returned (.string ByteArray.empty) ∧ Src w' X S0 s p true ∧ Only X w w' := by
  have c0 : w.cell? ⟨X, 0, none⟩ = some (.func (.func 39) #[] #[.pointer (some ⟨S0, 0, none⟩)]) := h.box.read 0
  have c1 : w.cell? ⟨X, 1, none⟩ = some (.int .i64 p) := h.box.read 1
  have c2 : w.cell? ⟨X, 2, none⟩ = some (.int .i64 (s.size - p : Int)) := h.box.read 2
  have c3 : w.cell? ⟨X, 3, none⟩ = some (.bool true) := h.box.read 3
  have f1 : w.frozen? ⟨X, 1, none⟩ = false := h.box.warm 1
  have f2 : w.frozen? ⟨X, 2, none⟩ = false := h.box.warm 2
  have f3 : w.frozen? ⟨X, 3, none⟩ = false := h.box.warm 3
  have hp := h.le
  go_enter Try.func52, Try.ntmps52
  go_wp2_with (go_at_call 40; refine (made_any h).mono ?_; rintro e w' ⟨rfl, rfl⟩)
  go_ret
  exact ⟨rfl, h, Only.refl X w⟩
set_option maxHeartbeats 1000000 in
theorem text_torn3 (h : Src w X S0 s p true) (v : Int) (hv : v < 0) : Calls Try.prog 52 #[.pointer (some ⟨X, 0, none⟩), .int .i64 v] w fun e w' => e = .returned (.string ByteArray.empty) ∧ Src w' X S0 s p true ∧ Only X w w' := by
  have c0 : w.cell? ⟨X, 0, none⟩ = some (.func (.func 39) #[] #[.pointer (some ⟨S0, 0, none⟩)]) := h.box.read 0
  have c1 : w.cell? ⟨X, 1, none⟩ = some (.int .i64 p) := h.box.read 1
  have c2 : w.cell? ⟨X, 2, none⟩ = some (.int .i64 (s.size - p : Int)) := h.box.read 2
  have c3 : w.cell? ⟨X, 3, none⟩ = some (.bool true) := h.box.read 3
  have f1 : w.frozen? ⟨X, 1, none⟩ = false := h.box.warm 1
  have f2 : w.frozen? ⟨X, 2, none⟩ = false := h.box.warm 2
  have f3 : w.frozen? ⟨X, 3, none⟩ = false := h.box.warm 3
  have hp := h.le
  go_enter Try.func52, Try.ntmps52
  go_wp2_with (go_at_call 40; refine (made_any h).mono ?_; rintro e w' ⟨rfl, rfl⟩)
  go_ret
  exact ⟨rfl, h, Only.refl X w⟩
/-- Whether it is torn behind n bytes more. -/
def bad (s : ByteArray) (p n : Nat) (torn : Bool) : Bool := torn || decide (s.size < p + n)
def textS (s : ByteArray) (p n : Nat) (torn : Bool) : ByteArray := bif bad s p n torn then ByteArray.empty else s.extract p (p + n)
def textP (s : ByteArray) (p n : Nat) (torn : Bool) : Nat := bif bad s p n torn then p else p + n
theorem text_any {torn : Bool} (h : Src w X S0 s p torn) (hs : s.size ≤ 4611686018427387904) (v : Int) : Calls Try.prog 52 #[.pointer (some ⟨X, 0, none⟩), .int .i64 v] w fun e w' => e = .returned (.string (textS s p v.toNat torn)) ∧ Src w' X S0 s (textP s p v.toNat torn) (bad s p v.toNat torn) ∧ Only X w w' := by
  have hp := h.le
  by_cases hv : v < 0
  · have e : v.toNat = 0 := by omega
    cases torn
    · have eb : bad s p v.toNat false = false := by simp [bad]; omega
      rw [textS, textP, eb, e]
      exact text_okV h hs v hv (by omega)
    · exact text_torn3 h v hv
  · obtain ⟨n, rfl⟩ : ∃ n : Nat, v = n := ⟨v.toNat, by omega⟩
    rw [Int.toNat_natCast]
    by_cases hn : s.size < p + n
    · cases torn
      · have eb : bad s p n false = true := by simp [bad]; omega
        rw [textS, textP, eb]
        exact text_tear h n hn
      · exact text_torn1 h n hn
    · cases torn
      · have eb : bad s p n false = false := by simp [bad]; omega
        rw [textS, textP, eb]
        exact text_okN h hs n (by omega)
      · exact text_torn2 h n (by omega)
end
end Go.Proofs.Ytilfhkagfjdfkaa
