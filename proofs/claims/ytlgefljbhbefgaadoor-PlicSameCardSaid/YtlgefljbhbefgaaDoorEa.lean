/- Acts in memory; what the program's PLIC answers and is behind any act. -/
import Derived.Test.YtlgefljbhbefgaaDoorPc
import Derived.Test.YtlgefljbhbefgaaDoorDa
set_option linter.unusedVariables false
set_option linter.unusedSimpArgs false
namespace Go.Proofs.YtlgefljbhbefgaaDoor
open Go.RowKit
/-- The law answers true, and what there was stays. -/
def Yes (w : World) (e : Ending) (w' : World) : Prop := e = .returned (.bool true) ∧ Below w.heap.size w w'
/-- What is done. -/
structure Deed where
  k : Nat
  n : Int
  hi : Bool
  off : Nat
  v : Nat
  wd : Int
/-- A row of deeds that stands in memory. -/
def IsDeeds (w : World) (a : Option Addr) (len : Nat) (l : List Deed) : Prop :=
  l.length = len ∧ ∀ k (f : Deed), l[k]? = some f → ∃ b off, a = some ⟨b, off, none⟩ ∧ b < w.heap.size ∧ w.cell? ⟨b, off + k * 6, none⟩ = some (.int .u8 f.k) ∧ w.cell? ⟨b, off + k * 6 + 1, none⟩ = some (.int .i64 f.n) ∧ w.cell? ⟨b, off + k * 6 + 2, none⟩ = some (.bool f.hi) ∧ w.cell? ⟨b, off + k * 6 + 3, none⟩ = some (.int .u64 f.off) ∧ w.cell? ⟨b, off + k * 6 + 4, none⟩ = some (.int .u64 f.v) ∧ w.cell? ⟨b, off + k * 6 + 5, none⟩ = some (.int .i64 f.wd) ∧ f.k < 256 ∧ f.off < 18446744073709551616 ∧ f.v < 18446744073709551616 ∧ f.n ≤ 9223372036854775807
theorem IsDeeds.later {w wx : World} {a : Option Addr} {len : Nat} {l : List Deed} (hf : IsDeeds w a len l) (bel : Below w.heap.size w wx) : IsDeeds wx a len l := ⟨hf.1, fun k f hk => by
    obtain ⟨b, off, rfl, hbb, c0, c1, c2, c3, c4, c5, hn⟩ := hf.2 k f hk
    exact ⟨b, off, rfl, Nat.lt_of_lt_of_le hbb bel.size, (bel.cell (by exact hbb)).trans c0, (bel.cell (by exact hbb)).trans c1, (bel.cell (by exact hbb)).trans c2, (bel.cell (by exact hbb)).trans c3, (bel.cell (by exact hbb)).trans c4, (bel.cell (by exact hbb)).trans c5, hn⟩⟩
/-- An act's cells. -/
abbrev acs (k : Nat) (n : Int) (hi : Bool) (off v : Nat) (wd : Int) : Array Value := #[.int .u8 k, .int .i64 n, .bool hi, .int .u64 off, .int .u64 v, .int .i64 wd]
theorem Tz16.later {w w2 : World} (h : Tz16 w) (hb : Below w.heap.size w w2) : Tz16 w2 := fun W hW => h W (hb.trans (hW.mono hb.size))
/-- A level of any source, or of none. -/
def PS.raiseI (s : PS) (n : Int) (b : Bool) : PS := if 1 ≤ n ∧ n < 8 then s.raise n.toNat b else s
def errI (n : Int) : Int := if 1 ≤ n ∧ n < 8 then 0 else 2
/-- A read of any place. -/
def PS.rdI (s : PS) (off : Nat) (wd : Int) : PS := if isReg off wd = true then (s.rd off).2 else s
def PS.rdV (s : PS) (off : Nat) (wd : Int) : Nat := if isReg off wd = true then (s.rd off).1 else 0
/-- A write to any place. -/
def PS.wrI (s : PS) (off v : Nat) (wd : Int) : PS := if isReg off wd = true then s.wr off (v % 4294967296) else s
theorem PS.ok2.raiseI {s : PS} (h : s.ok2) (n : Int) (b : Bool) : (s.raiseI n b).ok2 := by
  unfold PS.raiseI
  split
  · exact h.raise (by omega) b
  · exact h
theorem PS.ok2.rdI {s : PS} (h : s.ok2) (off : Nat) (wd : Int) : (s.rdI off wd).ok2 := by
  unfold PS.rdI
  split
  · exact h.rd off
  · exact h
theorem PS.ok2.wrI {s : PS} (h : s.ok2) (off v : Nat) (wd : Int) : (s.wrI off v wd).ok2 := by
  unfold PS.wrI
  split
  · exact h.wr off _
  · exact h
theorem isReg_width {off : Nat} {wd : Int} (h : isReg off wd = true) : wd = 4 := (of_decide_eq_true h).1
section
variable {w : World} {P : Nat} {s : PS}
theorem raise_ev (h : Box w P 58 (plc s)) (n : Int) (hn64 : n ≤ 9223372036854775807) (b : Bool) : Calls Tryd.prog 10 #[.pointer (some ⟨P, 0, none⟩), .int .i64 n, .bool b] w fun e w' => e = .returned (.int .i64 (errI n)) ∧ Box w' P 58 (plc (s.raiseI n b)) ∧ Only P w w' := by
  unfold errI PS.raiseI
  by_cases hn : 1 ≤ n ∧ n < 8
  · rw [if_pos hn, if_pos hn]
    obtain ⟨k, rfl⟩ : ∃ k : Nat, n = k := ⟨n.toNat, by omega⟩
    exact raise_yes h k (by omega) (by omega) b
  · rw [if_neg hn, if_neg hn]
    exact (raise_no h n hn hn64 b).mono fun e w' hz => ⟨hz.1, hz.2 ▸ h, hz.2 ▸ Only.refl P w⟩
theorem read_ev (h : Box w P 58 (plc s)) (ok : s.ok) (off : Nat) (wd : Int) : Calls Tryd.prog 17 #[.pointer (some ⟨P, 0, none⟩), .int .u64 off, .int .i64 wd] w fun e w' => e = .returned (.tuple #[.int .u64 (s.rdV off wd), .bool (isReg off wd)]) ∧ Box w' P 58 (plc (s.rdI off wd)) ∧ Only P w w' := by
  unfold PS.rdV PS.rdI
  by_cases hr : isReg off wd = true
  · obtain rfl := isReg_width hr
    rw [if_pos hr, if_pos hr, hr]
    exact read_any h ok off hr
  · rw [if_neg hr, if_neg hr, Bool.eq_false_iff.2 hr]
    exact (read_no h off wd (Bool.eq_false_iff.2 hr)).mono fun e w' hz => ⟨hz.1, hz.2 ▸ h, hz.2 ▸ Only.refl P w⟩
theorem write_ev (h : Box w P 58 (plc s)) (ok : s.ok) (off v : Nat) (hv : v < 18446744073709551616) (wd : Int) : Calls Tryd.prog 18 #[.pointer (some ⟨P, 0, none⟩), .int .u64 off, .int .u64 v, .int .i64 wd] w fun e w' => e = .returned (.bool (isReg off wd)) ∧ Box w' P 58 (plc (s.wrI off v wd)) ∧ Only P w w' := by
  unfold PS.wrI
  by_cases hr : isReg off wd = true
  · obtain rfl := isReg_width hr
    rw [if_pos hr, hr]
    exact write_any h ok off v hv hr
  · rw [if_neg hr, Bool.eq_false_iff.2 hr]
    exact (write_no h off v wd (Bool.eq_false_iff.2 hr)).mono fun e w' hz => ⟨hz.1, hz.2 ▸ h, hz.2 ▸ Only.refl P w⟩
end
end Go.Proofs.YtlgefljbhbefgaaDoor
