/- What is done at a register: priorities, enables, thresholds. -/
import Derived.Test.YtlgefljbhbefgaaDoorD
import Derived.Test.YtlgefljbhbefgaaDoorQt
set_option linter.unusedVariables false
set_option linter.unusedSimpArgs false
namespace Go.Proofs.YtlgefljbhbefgaaDoor
open Go.RowKit
attribute [local go_sem] Oper.semAt_some
/-- A place: a PLIC, and a number. -/
abbrev plc2 (P : Nat) (n : Int) : Value := .agg #[.pointer (some ⟨P, 0, none⟩), .int .i64 n]
theorem and_u32 (a b : Nat) (ha : a < 4294967296) (hb : b < 4294967296) : bits .and .u32 (a : Int) (b : Int) = ((a &&& b : Nat) : Int) := by
  have hx : a &&& b < 2 ^ 32 := Nat.and_lt_two_pow _ (by omega)
  have h1 : (BitVec.ofInt 32 (a : Int)).toNat = a := by
    rw [BitVec.ofInt_natCast, BitVec.toNat_ofNat]; exact Nat.mod_eq_of_lt (by omega)
  have h2 : (BitVec.ofInt 32 (b : Int)).toNat = b := by
    rw [BitVec.ofInt_natCast, BitVec.toNat_ofNat]; exact Nat.mod_eq_of_lt (by omega)
  show IntKind.u32.wrap ((BitVec.ofInt 32 (a : Int) &&& BitVec.ofInt 32 (b : Int)).toNat : Int) = _
  rw [BitVec.toNat_and, h1, h2]
  show ((a &&& b : Nat) : Int) % 4294967296 = _
  omega
theorem and7 (v : Nat) (h : v < 4294967296) : bits .and .u32 (v : Int) 7 = ((v % 8 : Nat) : Int) := by
  rw [show (7 : Int) = ((7 : Nat) : Int) from rfl, and_u32 v 7 h (by decide), show (7 : Nat) = 2 ^ 3 - 1 from rfl, Nat.and_two_pow_sub_one_eq_mod]
theorem and254 (v : Nat) (h : v < 4294967296) : bits .and .u32 (v : Int) 254 = ((v % 256 - v % 2 : Nat) : Int) := by
  have h1 : ∀ x : Nat, x < 256 → x &&& 254 = x - x % 2 := by decide +kernel
  rw [show (254 : Int) = ((254 : Nat) : Int) from rfl, and_u32 v 254 h (by decide), show (254 : Nat) = 255 &&& 254 from by decide, ← Nat.and_assoc, show (255 : Nat) = 2 ^ 8 - 1 from rfl, Nat.and_two_pow_sub_one_eq_mod]
  rw [h1 _ (Nat.mod_lt _ (by decide))]
  have : v % 2 ^ 8 % 2 = v % 2 := by omega
  rw [this]
section
variable {w : World} {P : Nat} {s : PS}
theorem pri_any (h : Box w P 58 (plc s)) (n : Nat) (hn : n < 8) (hb : s.pr n < 8) : Calls Tryd.prog 41 #[plc2 P n] w fun e w' => e = .returned (.int .u64 (s.pr n)) ∧ Below w.heap.size w w' := by
  have HX := Lib.hid (Box.made w 78 #[.pointer (some ⟨P, 0, none⟩), .int .i64 n])
  have x0 : ∀ j, ((w.alloc (.cells #[.pointer (some ⟨P, 0, none⟩), .int .i64 n] 78)).drewN j).cell? ⟨w.heap.size, 0, none⟩ = some (.pointer (some ⟨P, 0, none⟩)) := fun j => (HX.out.drawn j).read 0
  have x1 : ∀ j, ((w.alloc (.cells #[.pointer (some ⟨P, 0, none⟩), .int .i64 n] 78)).drewN j).cell? ⟨w.heap.size, 1, none⟩ = some (.int .i64 n) := fun j => (HX.out.drawn j).read 1
  have c : ∀ j, ((w.alloc (.cells #[.pointer (some ⟨P, 0, none⟩), .int .i64 n] 78)).drewN j).cell? ⟨P, 1 + n * 4, none⟩ = some (.int .u8 (s.pr n)) := fun j => (((h.more _).drawn j).read _).trans (pr_at s n hn)
  have hw : IntKind.u64.wrap (s.pr n : Int) = (s.pr n : Int) := by rw [IntKind.wrap_u64]; omega
  have T0 : Hid (Below w.heap.size w (w.alloc (.cells #[.pointer (some ⟨P, 0, none⟩), .int .i64 n] 78))) := Lib.hid ((Below.refl _ _).alloc (Nat.le_refl _) _)
  have n0 : (0 : Int) ≤ (n : Int) := Int.natCast_nonneg _
  have n1 : (n : Int) < 8 := by omega
  clear h
  go_enter Tryd.func41, Tryd.ntmps41
  go_wp2
  go_quiet (fail)
  go_wp2
  go_ret
  exact ⟨rfl, below_drawn T0.out _⟩
theorem enb_any (h : Box w P 58 (plc s)) (n : Nat) (hn : n < 2) (hb : s.en n < 256) : Calls Tryd.prog 43 #[plc2 P n] w fun e w' => e = .returned (.int .u64 (s.en n)) ∧ Below w.heap.size w w' := by
  have HX := Lib.hid (Box.made w 78 #[.pointer (some ⟨P, 0, none⟩), .int .i64 n])
  have x0 : ∀ j, ((w.alloc (.cells #[.pointer (some ⟨P, 0, none⟩), .int .i64 n] 78)).drewN j).cell? ⟨w.heap.size, 0, none⟩ = some (.pointer (some ⟨P, 0, none⟩)) := fun j => (HX.out.drawn j).read 0
  have x1 : ∀ j, ((w.alloc (.cells #[.pointer (some ⟨P, 0, none⟩), .int .i64 n] 78)).drewN j).cell? ⟨w.heap.size, 1, none⟩ = some (.int .i64 n) := fun j => (HX.out.drawn j).read 1
  have c : ∀ j, ((w.alloc (.cells #[.pointer (some ⟨P, 0, none⟩), .int .i64 n] 78)).drewN j).cell? ⟨P, 33 + n * 2, none⟩ = some (.int .u8 (s.en n)) := fun j => (((h.more _).drawn j).read _).trans (en_at s n hn)
  have hw : IntKind.u64.wrap (s.en n : Int) = (s.en n : Int) := by rw [IntKind.wrap_u64]; omega
  have T0 : Hid (Below w.heap.size w (w.alloc (.cells #[.pointer (some ⟨P, 0, none⟩), .int .i64 n] 78))) := Lib.hid ((Below.refl _ _).alloc (Nat.le_refl _) _)
  have n0 : (0 : Int) ≤ (n : Int) := Int.natCast_nonneg _
  have n1 : (n : Int) < 2 := by omega
  clear h
  go_enter Tryd.func43, Tryd.ntmps43
  go_wp2
  go_quiet (fail)
  go_wp2
  go_ret
  exact ⟨rfl, below_drawn T0.out _⟩
theorem thr_any (h : Box w P 58 (plc s)) (n : Nat) (hn : n < 2) (hb : s.th n < 8) : Calls Tryd.prog 45 #[plc2 P n] w fun e w' => e = .returned (.int .u64 (s.th n)) ∧ Below w.heap.size w w' := by
  have HX := Lib.hid (Box.made w 78 #[.pointer (some ⟨P, 0, none⟩), .int .i64 n])
  have x0 : ∀ j, ((w.alloc (.cells #[.pointer (some ⟨P, 0, none⟩), .int .i64 n] 78)).drewN j).cell? ⟨w.heap.size, 0, none⟩ = some (.pointer (some ⟨P, 0, none⟩)) := fun j => (HX.out.drawn j).read 0
  have x1 : ∀ j, ((w.alloc (.cells #[.pointer (some ⟨P, 0, none⟩), .int .i64 n] 78)).drewN j).cell? ⟨w.heap.size, 1, none⟩ = some (.int .i64 n) := fun j => (HX.out.drawn j).read 1
  have c : ∀ j, ((w.alloc (.cells #[.pointer (some ⟨P, 0, none⟩), .int .i64 n] 78)).drewN j).cell? ⟨P, 33 + n * 2 + 1, none⟩ = some (.int .u8 (s.th n)) := fun j => (((h.more _).drawn j).read _).trans (th_at s n hn)
  have hw : IntKind.u64.wrap (s.th n : Int) = (s.th n : Int) := by rw [IntKind.wrap_u64]; omega
  have T0 : Hid (Below w.heap.size w (w.alloc (.cells #[.pointer (some ⟨P, 0, none⟩), .int .i64 n] 78))) := Lib.hid ((Below.refl _ _).alloc (Nat.le_refl _) _)
  have n0 : (0 : Int) ≤ (n : Int) := Int.natCast_nonneg _
  have n1 : (n : Int) < 2 := by omega
  clear h
  go_enter Tryd.func45, Tryd.ntmps45
  go_wp2
  go_quiet (fail)
  go_wp2
  go_ret
  exact ⟨rfl, below_drawn T0.out _⟩
set_option maxHeartbeats 2000000 in
theorem setPri_any (h : Box w P 58 (plc s)) (n : Nat) (hn : n < 8) (v : Nat) (hv : v < 4294967296) : Calls Tryd.prog 42 #[plc2 P n, .int .u32 v] w fun e w' => e = .returned (.tuple #[]) ∧ Box w' P 58 (plc (s.setPr n v)) ∧ Only P w w' := by
  have HX := Lib.hid (Box.made w 78 #[.pointer (some ⟨P, 0, none⟩), .int .i64 n])
  have x0 : ∀ j, ((w.alloc (.cells #[.pointer (some ⟨P, 0, none⟩), .int .i64 n] 78)).drewN j).cell? ⟨w.heap.size, 0, none⟩ = some (.pointer (some ⟨P, 0, none⟩)) := fun j => (HX.out.drawn j).read 0
  have x1 : ∀ j, ((w.alloc (.cells #[.pointer (some ⟨P, 0, none⟩), .int .i64 n] 78)).drewN j).cell? ⟨w.heap.size, 1, none⟩ = some (.int .i64 n) := fun j => (HX.out.drawn j).read 1
  have hm := and7 v hv
  have T0 : Hid (Only P w (w.alloc (.cells #[.pointer (some ⟨P, 0, none⟩), .int .i64 n] 78))) := Lib.hid ((Only.refl P w).more _)
  have HB := Lib.hid (h.more (.cells #[.pointer (some ⟨P, 0, none⟩), .int .i64 n] 78))
  have n0 : (0 : Int) ≤ (n : Int) := Int.natCast_nonneg _
  have n1 : (n : Int) < 8 := by omega
  obtain ⟨x, hx, hx8⟩ : ∃ x : Nat, v % 8 = x ∧ x < 256 := ⟨_, rfl, by omega⟩
  rw [hx] at hm
  have hw : IntKind.u8.wrap (x : Int) = (x : Int) := by show (x : Int) % 256 = _; omega
  have HF : Hid (s.setPr n v = { s with pr := upd s.pr n x }) := Lib.hid (by rw [← hx]; rfl)
  rw [HF.out]
  clear h hx hv
  go_enter Tryd.func42, Tryd.ntmps42
  go_wp2
  refine wp_region_quiet_at 11 (by kernel_rfl) (by kernel_rfl) (by kernel_rfl) (by kernel_rfl) ?_
  simp only [List.take_succ_cons, List.take_zero, List.drop_succ_cons, List.drop_zero]
  repeat (go_big_quiet_step (fail))
  refine wpQuiet_nil ?_
  intro w9 hw9
  obtain ⟨nq, hw9⟩ := hw9
  subst hw9
  have H9 := Lib.hid (And.intro (HB.out.drawn nq) (T0.out.drawn nq))
  clear x0 x1
  generalize (w.alloc (.cells #[.pointer (some ⟨P, 0, none⟩), .int .i64 n] 78)).drewN nq = w3 at H9 ⊢
  have c : w3.cell? ⟨P, 1 + n * 4, none⟩ = some (.int .u8 (s.pr n)) := (H9.out.1.read _).trans (pr_at s n hn)
  have cf := H9.out.1.warm (1 + n * 4)
  have HP := Lib.hid (H9.out.1.put (1 + n * 4) (.int .u8 (x : Int)))
  rw [pr_put s x n hn] at HP
  go_wp2
  go_end0
  exact ⟨rfl, HP.out, H9.out.2.put (p := ⟨P, 1 + n * 4, none⟩) (.inl rfl) _⟩
set_option maxHeartbeats 2000000 in
theorem setEnb_any (h : Box w P 58 (plc s)) (n : Nat) (hn : n < 2) (v : Nat) (hv : v < 4294967296) : Calls Tryd.prog 44 #[plc2 P n, .int .u32 v] w fun e w' => e = .returned (.tuple #[]) ∧ Box w' P 58 (plc (s.setEn n v)) ∧ Only P w w' := by
  have HX := Lib.hid (Box.made w 78 #[.pointer (some ⟨P, 0, none⟩), .int .i64 n])
  have x0 : ∀ j, ((w.alloc (.cells #[.pointer (some ⟨P, 0, none⟩), .int .i64 n] 78)).drewN j).cell? ⟨w.heap.size, 0, none⟩ = some (.pointer (some ⟨P, 0, none⟩)) := fun j => (HX.out.drawn j).read 0
  have x1 : ∀ j, ((w.alloc (.cells #[.pointer (some ⟨P, 0, none⟩), .int .i64 n] 78)).drewN j).cell? ⟨w.heap.size, 1, none⟩ = some (.int .i64 n) := fun j => (HX.out.drawn j).read 1
  have hm := and254 v hv
  have T0 : Hid (Only P w (w.alloc (.cells #[.pointer (some ⟨P, 0, none⟩), .int .i64 n] 78))) := Lib.hid ((Only.refl P w).more _)
  have HB := Lib.hid (h.more (.cells #[.pointer (some ⟨P, 0, none⟩), .int .i64 n] 78))
  have n0 : (0 : Int) ≤ (n : Int) := Int.natCast_nonneg _
  have n1 : (n : Int) < 2 := by omega
  obtain ⟨x, hx, hx8⟩ : ∃ x : Nat, v % 256 - v % 2 = x ∧ x < 256 := ⟨_, rfl, by omega⟩
  rw [hx] at hm
  have hw : IntKind.u8.wrap (x : Int) = (x : Int) := by show (x : Int) % 256 = _; omega
  have HF : Hid (s.setEn n v = { s with en := upd s.en n x }) := Lib.hid (by rw [← hx]; rfl)
  rw [HF.out]
  clear h hx hv
  go_enter Tryd.func44, Tryd.ntmps44
  go_wp2
  refine wp_region_quiet_at 11 (by kernel_rfl) (by kernel_rfl) (by kernel_rfl) (by kernel_rfl) ?_
  simp only [List.take_succ_cons, List.take_zero, List.drop_succ_cons, List.drop_zero]
  repeat (go_big_quiet_step (fail))
  refine wpQuiet_nil ?_
  intro w9 hw9
  obtain ⟨nq, hw9⟩ := hw9
  subst hw9
  have H9 := Lib.hid (And.intro (HB.out.drawn nq) (T0.out.drawn nq))
  clear x0 x1
  generalize (w.alloc (.cells #[.pointer (some ⟨P, 0, none⟩), .int .i64 n] 78)).drewN nq = w3 at H9 ⊢
  have c : w3.cell? ⟨P, 33 + n * 2, none⟩ = some (.int .u8 (s.en n)) := (H9.out.1.read _).trans (en_at s n hn)
  have cf := H9.out.1.warm (33 + n * 2)
  have HP := Lib.hid (H9.out.1.put (33 + n * 2) (.int .u8 (x : Int)))
  rw [en_put s x n hn] at HP
  go_wp2
  go_end0
  exact ⟨rfl, HP.out, H9.out.2.put (p := ⟨P, 33 + n * 2, none⟩) (.inl rfl) _⟩
set_option maxHeartbeats 2000000 in
theorem setThr_any (h : Box w P 58 (plc s)) (n : Nat) (hn : n < 2) (v : Nat) (hv : v < 4294967296) : Calls Tryd.prog 46 #[plc2 P n, .int .u32 v] w fun e w' => e = .returned (.tuple #[]) ∧ Box w' P 58 (plc (s.setTh n v)) ∧ Only P w w' := by
  have HX := Lib.hid (Box.made w 78 #[.pointer (some ⟨P, 0, none⟩), .int .i64 n])
  have x0 : ∀ j, ((w.alloc (.cells #[.pointer (some ⟨P, 0, none⟩), .int .i64 n] 78)).drewN j).cell? ⟨w.heap.size, 0, none⟩ = some (.pointer (some ⟨P, 0, none⟩)) := fun j => (HX.out.drawn j).read 0
  have x1 : ∀ j, ((w.alloc (.cells #[.pointer (some ⟨P, 0, none⟩), .int .i64 n] 78)).drewN j).cell? ⟨w.heap.size, 1, none⟩ = some (.int .i64 n) := fun j => (HX.out.drawn j).read 1
  have hm := and7 v hv
  have T0 : Hid (Only P w (w.alloc (.cells #[.pointer (some ⟨P, 0, none⟩), .int .i64 n] 78))) := Lib.hid ((Only.refl P w).more _)
  have HB := Lib.hid (h.more (.cells #[.pointer (some ⟨P, 0, none⟩), .int .i64 n] 78))
  have n0 : (0 : Int) ≤ (n : Int) := Int.natCast_nonneg _
  have n1 : (n : Int) < 2 := by omega
  obtain ⟨x, hx, hx8⟩ : ∃ x : Nat, v % 8 = x ∧ x < 256 := ⟨_, rfl, by omega⟩
  rw [hx] at hm
  have hw : IntKind.u8.wrap (x : Int) = (x : Int) := by show (x : Int) % 256 = _; omega
  have HF : Hid (s.setTh n v = { s with th := upd s.th n x }) := Lib.hid (by rw [← hx]; rfl)
  rw [HF.out]
  clear h hx hv
  go_enter Tryd.func46, Tryd.ntmps46
  go_wp2
  refine wp_region_quiet_at 11 (by kernel_rfl) (by kernel_rfl) (by kernel_rfl) (by kernel_rfl) ?_
  simp only [List.take_succ_cons, List.take_zero, List.drop_succ_cons, List.drop_zero]
  repeat (go_big_quiet_step (fail))
  refine wpQuiet_nil ?_
  intro w9 hw9
  obtain ⟨nq, hw9⟩ := hw9
  subst hw9
  have H9 := Lib.hid (And.intro (HB.out.drawn nq) (T0.out.drawn nq))
  clear x0 x1
  generalize (w.alloc (.cells #[.pointer (some ⟨P, 0, none⟩), .int .i64 n] 78)).drewN nq = w3 at H9 ⊢
  have c : w3.cell? ⟨P, 33 + n * 2 + 1, none⟩ = some (.int .u8 (s.th n)) := (H9.out.1.read _).trans (th_at s n hn)
  have cf := H9.out.1.warm (33 + n * 2 + 1)
  have HP := Lib.hid (H9.out.1.put (33 + n * 2 + 1) (.int .u8 (x : Int)))
  rw [th_put s x n hn] at HP
  go_wp2
  go_end0
  exact ⟨rfl, HP.out, H9.out.2.put (p := ⟨P, 33 + n * 2 + 1, none⟩) (.inl rfl) _⟩
theorem nought_any (n : Int) : Calls Tryd.prog 51 #[plc2 P n] w fun e w' => e = .returned (.int .u64 0) ∧ Below w.heap.size w w' := by
  have T0 : Hid (Below w.heap.size w (w.alloc (.cells #[.pointer (some ⟨P, 0, none⟩), .int .i64 n] 78))) := Lib.hid ((Below.refl _ _).alloc (Nat.le_refl _) _)
  go_enter Tryd.func51, Tryd.ntmps51
  go_wp2
  go_ret
  exact ⟨rfl, by first | exact T0.out | exact Below.refl _ _⟩
theorem keep_any (n v : Int) : Calls Tryd.prog 50 #[plc2 P n, .int .u32 v] w fun e w' => e = .returned (.tuple #[]) ∧ Below w.heap.size w w' := by
  have T0 : Hid (Below w.heap.size w (w.alloc (.cells #[.pointer (some ⟨P, 0, none⟩), .int .i64 n] 78))) := Lib.hid ((Below.refl _ _).alloc (Nat.le_refl _) _)
  go_enter Tryd.func50, Tryd.ntmps50
  go_wp2
  go_end0
  exact ⟨rfl, by first | exact T0.out | exact Below.refl _ _⟩
end
end Go.Proofs.YtlgefljbhbefgaaDoor
