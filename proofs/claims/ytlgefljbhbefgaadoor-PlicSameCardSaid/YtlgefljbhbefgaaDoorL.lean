/- Some of the chapter's answers. -/
import Derived.Test.YtlgefljbhbefgaaDoorK
set_option linter.unusedVariables false
set_option linter.unusedSimpArgs false
namespace Go.Proofs.YtlgefljbhbefgaaDoor
open Go.RowKit
attribute [local go_sem] Oper.semAt_some
section
variable {w : World} {P : Nat} {s : PS}
theorem reads_to (h : Box w P 58 (plc s)) (ok : s.ok) (off want : Nat) (hr : isReg off 4 = true) (hx : (s.rd off).1 = want) : Calls Tryd.prog 21 #[.pointer (some ⟨P, 0, none⟩), .int .u64 off, .int .u64 want] w fun e w' => e = .returned (.bool true) ∧ Box w' P 58 (plc (s.rd off).2) ∧ Only P w w' := by
  have HR := Lib.hid (read_any h ok off hr)
  rw [hx] at HR
  clear h ok hr hx
  go_enter Tryd.func21, Tryd.ntmps21
  go_wp2_with (go_at_call 17; refine HR.out.mono ?_; rintro e w2 ⟨rfl, h1, h2⟩; have H2 := Lib.hid (And.intro h1 h2); clear h1 h2)
  go_ret
  exact ⟨by simp, H2.out.1, H2.out.2⟩
theorem calls_to (h : Box w P 58 (plc s)) (ok : s.ok) (c : Nat) (hc : c < 2) (x : Bool) (hx : s.calls c = x) : Calls Tryd.prog 12 #[.pointer (some ⟨P, 0, none⟩), .int .i64 c] w fun e w' => e = .returned (.bool x) ∧ Box w' P 58 (plc s) ∧ Only P w w' := by
  subst hx
  exact (calls_any h ok c hc).mono fun e w' hz => ⟨hz.1, h.over hz.2 h.inHeap, Only.ofBelow hz.2⟩
end
/-- What stands on the way. -/
def t1 : PS := PS.zero.raise 3 true
def t2 : PS := t1.wr 12 (5 % 4294967296)
def t3 : PS := t2.wr 8192 (8 % 4294967296)
def t4 : PS := t3.wr 2097152 (5 % 4294967296)
def t5 : PS := (t4.rd 2097156).2
def t6 : PS := (t5.rd 2097156).2
theorem t1_ok : t1.ok := PS.zero_ok.raise (by decide) _
theorem t2_ok : t2.ok := t1_ok.wr _ _
theorem t3_ok : t3.ok := t2_ok.wr _ _
theorem t4_ok : t4.ok := t3_ok.wr _ _
theorem t5_ok : t5.ok := t4_ok.rd _
theorem t6_ok : t6.ok := t5_ok.rd _
theorem a1 : (t1.rd 4096).1 = 8 ∧ t1.calls 0 = false ∧ t3.calls 0 = true ∧ t3.calls 1 = false ∧ t4.calls 0 = false ∧ (t4.rd 2097156).1 = 3 ∧ (t5.rd 2097156).1 = 0 ∧ (t6.rd 4096).1 = 0 := by decide +kernel
section
variable {w : World} {P : Nat}
def Go3 (w w' : World) (P : Nat) (s : PS) : Prop := Box w' P 58 (plc s) ∧ w.heap.size ≤ P ∧ Below w.heap.size w w'
theorem Go3.next {w1 w2 : World} {s s' : PS} (h : Go3 w w1 P s) (hb : Box w2 P 58 (plc s')) (ho : Only P w1 w2) : Go3 w w2 P s' := ⟨hb, h.2.1, h.2.2.trans (ho.below h.2.1 h.2.2.size)⟩
set_option maxHeartbeats 2000000 in
theorem given_any (w : World) : Calls Tryd.prog 20 #[] w fun e w' => ∃ P, e = .returned (.pointer (some ⟨P, 0, none⟩)) ∧ Go3 w w' P t3 := by
  have hN := new_any w
  obtain ⟨P, hP⟩ : ∃ P, P = w.heap.size := ⟨_, rfl⟩
  rw [← hP] at hN
  have HP := Lib.hid hP
  clear hP
  go_enter Tryd.func20, Tryd.ntmps20
  go_wp2_with fail
  refine hN.mono ?_
  rintro e w1 ⟨rfl, hw⟩
  have G1 : Go3 w w1 P PS.zero := ⟨by rw [← hw, HP.out]; exact Box.made _ _ _, Nat.le_of_eq HP.out.symm, by rw [← hw]; exact (Below.refl _ _).alloc (Nat.le_refl _) _⟩
  clear hN hw HP
  go_wp2_with fail
  refine (raise_yes G1.1 3 (by decide) (by decide) true).mono ?_
  rintro e w2 ⟨rfl, h1, h2⟩
  have G2 := G1.next h1 h2
  clear h1 h2 G1
  change Go3 w w2 P t1 at G2
  go_wp2_with fail
  refine (reads_to G2.1 t1_ok 4096 8 rfl a1.1).mono ?_
  rintro e w3 ⟨rfl, h1, h2⟩
  have G3 := G2.next h1 h2
  clear h1 h2 G2
  change Go3 w w3 P t1 at G3
  go_wp2_with fail
  refine (calls_to G3.1 t1_ok 0 (by decide) false a1.2.1).mono ?_
  rintro e w4 ⟨rfl, h1, h2⟩
  have G4 := G3.next h1 h2
  clear h1 h2 G3
  go_wp2_with fail
  refine (write_any G4.1 t1_ok 12 5 (by decide) rfl).mono ?_
  rintro e w5 ⟨rfl, h1, h2⟩
  have G5 := G4.next h1 h2
  clear h1 h2 G4
  change Go3 w w5 P t2 at G5
  go_wp2_with fail
  refine (write_any G5.1 t2_ok 8192 8 (by decide) rfl).mono ?_
  rintro e w6 ⟨rfl, h1, h2⟩
  have G6 := G5.next h1 h2
  clear h1 h2 G5
  change Go3 w w6 P t3 at G6
  go_wp2_with fail
  refine (calls_to G6.1 t3_ok 0 (by decide) true a1.2.2.1).mono ?_
  rintro e w7 ⟨rfl, h1, h2⟩
  have G7 := G6.next h1 h2
  clear h1 h2 G6
  go_wp2_with fail
  refine (calls_to G7.1 t3_ok 1 (by decide) false a1.2.2.2.1).mono ?_
  rintro e w8 ⟨rfl, h1, h2⟩
  have G8 := G7.next h1 h2
  clear h1 h2 G7
  go_wp2_with fail
  go_ret
  exact ⟨P, rfl, G8⟩
set_option maxHeartbeats 2000000 in
/-- The chapter's answers hold. -/
theorem works_any (w : World) : Calls Tryd.prog 7 #[] w fun e w' => e = .returned (.bool true) ∧ Below w.heap.size w w' := by
  go_enter Tryd.func7, Tryd.ntmps7
  go_wp2_with fail
  refine (given_any w).mono ?_
  rintro e w1 ⟨P, rfl, G1⟩
  go_wp2_with fail
  refine (write_any G1.1 t3_ok 2097152 5 (by decide) rfl).mono ?_
  rintro e w2 ⟨rfl, h1, h2⟩
  have G2 := G1.next h1 h2
  clear h1 h2 G1
  change Go3 w w2 P t4 at G2
  go_wp2_with fail
  refine (calls_to G2.1 t4_ok 0 (by decide) false a1.2.2.2.2.1).mono ?_
  rintro e w3 ⟨rfl, h1, h2⟩
  have G3 := G2.next h1 h2
  clear h1 h2 G2
  go_wp2_with fail
  refine (reads_to G3.1 t4_ok 2097156 3 rfl a1.2.2.2.2.2.1).mono ?_
  rintro e w4 ⟨rfl, h1, h2⟩
  have G4 := G3.next h1 h2
  clear h1 h2 G3
  change Go3 w w4 P t5 at G4
  go_wp2_with fail
  refine (reads_to G4.1 t5_ok 2097156 0 rfl a1.2.2.2.2.2.2.1).mono ?_
  rintro e w5 ⟨rfl, h1, h2⟩
  have G5 := G4.next h1 h2
  clear h1 h2 G4
  change Go3 w w5 P t6 at G5
  go_wp2_with fail
  refine (reads_to G5.1 t6_ok 4096 0 rfl a1.2.2.2.2.2.2.2).mono ?_
  rintro e w6 ⟨rfl, h1, h2⟩
  have G6 := G5.next h1 h2
  clear h1 h2 G5
  go_wp2_with fail
  go_ret
  exact ⟨rfl, G6.2.2⟩
end
end Go.Proofs.YtlgefljbhbefgaaDoor
