/- PlicServes: what the PLIC answers, in the words of what stands in memory. -/
import Derived.Test.YtlgefljbhbefgaaDoorM
set_option linter.unusedVariables false
set_option linter.unusedSimpArgs false
namespace Go.Proofs.YtlgefljbhbefgaaDoor
open Go.RowKit
theorem arr_eq (a : Array Value) (n : Nat) (h : a.size = n) : a = ((List.range n).map fun i => a.getD i undef).toArray := by
  apply Array.ext
  · simp [h]
  · intro i h1 h2
    simp [Array.getD, h1]
section
variable {w0 w : World} {P A B C X : Nat} {s : PS} {S F H : Nat → Bool} {xs : Array Value}
theorem Bw.rpend (h : Bw w0 w P A B C s S F H X xs) (ok : s.ok) : Calls Tryd.prog 17 #[.pointer (some ⟨P, 0, none⟩), .int .u64 4096, .int .i64 4] w fun e w' => e = .returned (.tuple #[.int .u64 (bitsN s.pe 8), .bool true]) ∧ Bw w0 w' P A B C s S F H X xs :=
  (read_any h.1.pl ok 4096 rfl).mono fun e w' hz => ⟨hz.1, h.plc hz.2.1 hz.2.2⟩
theorem Bw.ren (h : Bw w0 w P A B C s S F H X xs) (ok : s.ok) (c : Nat) (hc : c < 2) (hr : isReg (8192 + 128 * c) 4 = true) (Y : Int) (hY : Y = ((8192 + 128 * c : Nat) : Int)) : Calls Tryd.prog 17 #[.pointer (some ⟨P, 0, none⟩), .int .u64 Y, .int .i64 4] w fun e w' => e = .returned (.tuple #[.int .u64 (s.en c), .bool true]) ∧ Bw w0 w' P A B C s S F H X xs := by
  subst hY
  have hz := read_any h.1.pl ok (8192 + 128 * c) hr
  rw [rd_en s c hc] at hz
  exact hz.mono fun e w' hz => ⟨hz.1, h.plc hz.2.1 hz.2.2⟩
theorem Bw.rcl (h : Bw w0 w P A B C s S F H X xs) (ok : s.ok) (c : Nat) (hc : c < 2) (hr : isReg (2097156 + 4096 * c) 4 = true) (Y : Int) (hY : Y = ((2097156 + 4096 * c : Nat) : Int)) : Calls Tryd.prog 17 #[.pointer (some ⟨P, 0, none⟩), .int .u64 Y, .int .i64 4] w fun e w' => e = .returned (.tuple #[.int .u64 (s.best c), .bool true]) ∧ Bw w0 w' P A B C (s.claim c) S F H X xs := by
  subst hY
  have hz := read_any h.1.pl ok (2097156 + 4096 * c) hr
  rw [rd_cl s c hc] at hz
  exact hz.mono fun e w' hz => ⟨hz.1, h.plc hz.2.1 hz.2.2⟩
theorem Bw.rpri (h : Bw w0 w P A B C s S F H X xs) (ok : s.ok) (n : Nat) (hn : n < 8) (Y : Int) (hY : Y = ((4 * n : Nat) : Int)) : Calls Tryd.prog 17 #[.pointer (some ⟨P, 0, none⟩), .int .u64 Y, .int .i64 4] w fun e w' => e = .returned (.tuple #[.int .u64 (s.pr n), .bool true]) ∧ Bw w0 w' P A B C s S F H X xs := by
  subst hY
  have hz := read_any h.1.pl ok (4 * n) (reg_pri n hn)
  rw [rd_pri s ok.pr0 n hn] at hz
  exact hz.mono fun e w' hz => ⟨hz.1, h.plc hz.2.1 hz.2.2⟩
theorem Bw.calls (h : Bw w0 w P A B C s S F H X xs) (ok : s.ok) (c : Nat) (hc : c < 2) : Calls Tryd.prog 12 #[.pointer (some ⟨P, 0, none⟩), .int .i64 c] w fun e w' => e = .returned (.bool (s.calls c)) ∧ Bw w0 w' P A B C s S F H X xs :=
  (calls_any h.1.pl ok c hc).mono fun e w' hz => ⟨hz.1, h.below hz.2⟩
theorem Bw.wcl (h : Bw w0 w P A B C s S F H X xs) (ok : s.ok) (c : Nat) (hc : c < 2) (hr : isReg (2097156 + 4096 * c) 4 = true) (n : Nat) (hn : n < 8) (Y : Int) (hY : Y = ((2097156 + 4096 * c : Nat) : Int)) : Calls Tryd.prog 18 #[.pointer (some ⟨P, 0, none⟩), .int .u64 Y, .int .u64 n, .int .i64 4] w fun e w' => e = .returned (.bool true) ∧ Bw w0 w' P A B C (s.done c n) S F H X xs := by
  subst hY
  have hz := write_any h.1.pl ok (2097156 + 4096 * c) n (by omega) hr
  rw [wr_cl s _ c hc, Nat.mod_eq_of_lt (by omega)] at hz
  exact hz.mono fun e w' hz => ⟨hz.1, h.plc hz.2.1 hz.2.2⟩
end
end Go.Proofs.YtlgefljbhbefgaaDoor
