/- What New, isMade, isSource, settle, Raise and isRegister do. -/
import Derived.Test.YtlgefljbhbefgaaDoorB
set_option linter.unusedVariables false
set_option linter.unusedSimpArgs false
namespace Go.Proofs.YtlgefljbhbefgaaDoor
open Go.RowKit
attribute [local go_sem] Oper.semAt_some
theorem bool_eq {a b : Bool} (h : a = b) : Ending.returned (.bool a) = .returned (.bool b) := by rw [h]
section
variable {w : World} {P : Nat} {s : PS}
theorem new_any (w : World) : Calls Tryd.prog 8 #[] w fun e w' => e = .returned (.pointer (some ⟨w.heap.size, 0, none⟩)) ∧ w.alloc (.cells (plc .zero) 58) = w' := by
  go_enter Tryd.func8, Tryd.ntmps8
  go_wp2_with (refine wpList_build_to rfl 58 _ rfl (plc .zero) (by kernel_rfl) ?_)
  go_ret
  exact ⟨rfl, rfl⟩
theorem isMade_any (h : Box w P 58 (plc s)) : Calls Tryd.prog 22 #[.pointer (some ⟨P, 0, none⟩)] w fun e w' => e = .returned (.bool true) ∧ w = w' := by
  have c0 : w.cell? ⟨P, 0, none⟩ = some (.bool true) := h.read 0
  clear h
  go_enter Tryd.func22, Tryd.ntmps22
  go_wp2
  go_ret
  exact ⟨rfl, rfl⟩
theorem isSource_any (n : Nat) (w : World) : Calls Tryd.prog 23 #[.int .u64 n] w fun e w' => e = .returned (.bool (decide (1 ≤ n ∧ n < 8))) ∧ w = w' := by
  by_cases h1 : 1 ≤ n
  · by_cases h8 : n < 8
    · rw [decide_eq_true ⟨h1, h8⟩]
      have e1 : (1 : Int) ≤ (n : Int) := by omega
      have e2 : (n : Int) < 8 := by omega
      clear h1 h8
      go_enter Tryd.func23, Tryd.ntmps23
      go_wp2
      go_ret
      exact ⟨rfl, rfl⟩
    · rw [decide_eq_false (fun h => h8 h.2)]
      have e1 : (1 : Int) ≤ (n : Int) := by omega
      have e2 : ¬ (n : Int) < 8 := by omega
      clear h1 h8
      go_enter Tryd.func23, Tryd.ntmps23
      go_wp2
      go_ret
      exact ⟨rfl, rfl⟩
  · rw [decide_eq_false (fun h => h1 h.1)]
    have e1 : ¬ (1 : Int) ≤ (n : Int) := by omega
    clear h1
    go_enter Tryd.func23, Tryd.ntmps23
    go_wp2
    go_ret
    exact ⟨rfl, rfl⟩
/-- A source settles. -/
def PS.settle (s : PS) (n : Nat) : PS := { s with pe := if s.hi n = true ∧ s.se n = false then upd s.pe n true else s.pe }
theorem settle_any (h : Box w P 58 (plc s)) (n : Nat) (hn : n < 8) : Calls Tryd.prog 24 #[.pointer (some ⟨P, 1 + n * 4, none⟩)] w fun e w' => e = .returned (.tuple #[]) ∧ Box w' P 58 (plc (s.settle n)) ∧ Only P w w' := by
  have c1 : w.cell? ⟨P, 1 + n * 4 + 1, none⟩ = some (.bool (s.hi n)) := (h.read _).trans (hi_at s n hn)
  have c2 : w.cell? ⟨P, 1 + n * 4 + 2, none⟩ = some (.bool (s.pe n)) := (h.read _).trans (pe_at s n hn)
  have c3 : w.cell? ⟨P, 1 + n * 4 + 3, none⟩ = some (.bool (s.se n)) := (h.read _).trans (se_at s n hn)
  have f2 := h.warm (1 + n * 4 + 2)
  have HP := Lib.hid (h.put (1 + n * 4 + 2) (.bool true))
  rw [pe_put s true n hn] at HP
  have HB := Lib.hid h
  clear h
  unfold PS.settle
  generalize s.hi n = a at c1
  generalize s.se n = b at c3
  cases a <;> cases b
  · go_enter Tryd.func24, Tryd.ntmps24
    go_wp2
    go_end0
    exact ⟨rfl, HB.out, Only.refl _ _⟩
  · go_enter Tryd.func24, Tryd.ntmps24
    go_wp2
    go_end0
    exact ⟨rfl, HB.out, Only.refl _ _⟩
  · go_enter Tryd.func24, Tryd.ntmps24
    go_wp2
    go_end0
    exact ⟨rfl, HP.out, (Only.refl P w).put (p := ⟨P, 1 + n * 4 + 2, none⟩) (.inl rfl) _⟩
  · go_enter Tryd.func24, Tryd.ntmps24
    go_wp2
    go_end0
    exact ⟨rfl, HB.out, Only.refl _ _⟩
theorem raise_eq (s : PS) (n : Nat) (b : Bool) : ({ s with hi := upd s.hi n b } : PS).settle n = s.raise n b := by
  simp only [PS.settle, PS.raise, upd_at]
theorem raise_no (h : Box w P 58 (plc s)) (n : Int) (hn : ¬ (1 ≤ n ∧ n < 8)) (hn64 : n ≤ 9223372036854775807) (b : Bool) : Calls Tryd.prog 10 #[.pointer (some ⟨P, 0, none⟩), .int .i64 n, .bool b] w fun e w' => e = .returned (.int .i64 2) ∧ w = w' := by
  by_cases h0 : n < 0
  · clear hn
    go_enter Tryd.func10, Tryd.ntmps10
    go_wp2_with (go_at_call 22; refine (isMade_any h).mono ?_; rintro e w' ⟨rfl, rfl⟩)
    go_ret
    exact ⟨rfl, rfl⟩
  · obtain ⟨k, rfl⟩ : ∃ k : Nat, n = k := ⟨n.toNat, by omega⟩
    have hk : decide (1 ≤ k ∧ k < 8) = false := decide_eq_false (by omega)
    have hw : IntKind.u64.wrap (k : Int) = (k : Int) := by rw [IntKind.wrap_u64]; omega
    have HS := Lib.hid (isSource_any k w)
    rw [hk] at HS
    clear hn hk
    go_enter Tryd.func10, Tryd.ntmps10
    go_wp2_with (first | (go_at_call 22; refine (isMade_any h).mono ?_; rintro e w' ⟨rfl, rfl⟩) | (go_at_call 23; refine HS.out.mono ?_; rintro e w' ⟨rfl, rfl⟩))
    go_ret
    exact ⟨rfl, rfl⟩
theorem raise_yes (h : Box w P 58 (plc s)) (n : Nat) (h1 : 1 ≤ n) (h8 : n < 8) (b : Bool) : Calls Tryd.prog 10 #[.pointer (some ⟨P, 0, none⟩), .int .i64 n, .bool b] w fun e w' => e = .returned (.int .i64 0) ∧ Box w' P 58 (plc (s.raise n b)) ∧ Only P w w' := by
  have hk : decide (1 ≤ n ∧ n < 8) = true := decide_eq_true ⟨h1, h8⟩
  have hw : IntKind.u64.wrap (n : Int) = (n : Int) := by rw [IntKind.wrap_u64]; omega
  have n0 : ¬ (n : Int) < 0 := by omega
  have n8 : (n : Int) < 8 := by omega
  have HS := Lib.hid (isSource_any n w)
  rw [hk] at HS
  have c1 : w.cell? ⟨P, 1 + n * 4 + 1, none⟩ = some (.bool (s.hi n)) := (h.read _).trans (hi_at s n h8)
  have f1 := h.warm (1 + n * 4 + 1)
  have HP := Lib.hid (h.put (1 + n * 4 + 1) (.bool b))
  rw [hi_put s b n h8] at HP
  have HT := Lib.hid (settle_any HP.out n h8)
  rw [raise_eq] at HT
  have HM := Lib.hid (isMade_any h)
  clear h hk HP
  go_enter Tryd.func10, Tryd.ntmps10
  go_wp2_with (first | (go_at_call 22; refine HM.out.mono ?_; rintro e w' ⟨rfl, rfl⟩) | (go_at_call 23; refine HS.out.mono ?_; rintro e w' ⟨rfl, rfl⟩) | (go_at_call 24; refine HT.out.mono ?_; rintro e w' ⟨rfl, hb, ho⟩; have HR := Lib.hid (And.intro hb (((Only.refl P w).put (p := ⟨P, 1 + n * 4 + 1, none⟩) (.inl rfl) (.bool b)).trans ho)); clear hb ho))
  go_ret
  exact ⟨rfl, HR.out.1, HR.out.2⟩
/-- Is there a register? -/
def isReg (off : Nat) (width : Int) : Bool := decide (width = 4 ∧ off % 4 = 0 ∧ off < 2105344)
theorem isReg_any (h : Box w P 58 (plc s)) (off : Nat) (width : Int) : Calls Tryd.prog 35 #[.pointer (some ⟨P, 0, none⟩), .int .u64 off, .int .i64 width] w fun e w' => e = .returned (.bool (isReg off width)) ∧ w = w' := by
  have HM := Lib.hid (isMade_any h)
  have e1 : (off : Int) % 4 = ((off % 4 : Nat) : Int) := rfl
  have e2 : (off : Int).tmod 4 = ((off % 4 : Nat) : Int) := rfl
  clear h
  by_cases hw : width = 4
  · have w1 : (width == 4) = true := by simp [hw]
    by_cases h4 : off % 4 = 0
    · have z1 : (((off % 4 : Nat) : Int) == 0) = true := by simp [h4]
      have hd : isReg off width = decide ((off : Int) < 2105344) := by
        unfold isReg
        by_cases h : off < 2105344
        · rw [decide_eq_true ⟨hw, h4, h⟩, decide_eq_true (by omega)]
        · rw [decide_eq_false (fun h' => h h'.2.2), decide_eq_false (by omega)]
      rw [hd]
      clear hw h4 hd
      generalize off % 4 = r at e1 e2 z1
      go_enter Tryd.func35, Tryd.ntmps35
      go_wp2_with (go_at_call 22; refine HM.out.mono ?_; rintro e w' ⟨rfl, rfl⟩)
      go_ret
      exact ⟨rfl, rfl⟩
    · have z1 : (((off % 4 : Nat) : Int) == 0) = false := beq_eq_false_iff_ne.2 (by omega)
      have hd : isReg off width = false := decide_eq_false (fun h => h4 h.2.1)
      rw [hd]
      clear hw h4 hd
      generalize off % 4 = r at e1 e2 z1
      go_enter Tryd.func35, Tryd.ntmps35
      go_wp2_with (go_at_call 22; refine HM.out.mono ?_; rintro e w' ⟨rfl, rfl⟩)
      go_ret
      exact ⟨rfl, rfl⟩
  · have w1 : (width == 4) = false := beq_eq_false_iff_ne.2 hw
    have hd : isReg off width = false := decide_eq_false (fun h => hw h.1)
    rw [hd]
    clear hw hd
    go_enter Tryd.func35, Tryd.ntmps35
    go_wp2_with (go_at_call 22; refine HM.out.mono ?_; rintro e w' ⟨rfl, rfl⟩)
    go_ret
    exact ⟨rfl, rfl⟩
end
end Go.Proofs.YtlgefljbhbefgaaDoor
