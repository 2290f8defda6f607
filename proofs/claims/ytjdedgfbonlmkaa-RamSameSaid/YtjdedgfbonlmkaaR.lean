/- A memory: what Read answers, exactly. -/
import Derived.Test.YtjdedgfbonlmkaaG
import Derived.Laws.Bits64b
set_option linter.unusedVariables false
set_option linter.unusedSimpArgs false
namespace Go.Proofs.Ytjdedgfbonlmkaa
open Go.RowKit
/-- The byte at a place. -/
def at8 (l : List UInt8) (i : Nat) : Nat := (l.getD i 0).toNat
theorem at8_lt (l : List UInt8) (i : Nat) : at8 l i < 256 := UInt8.toNat_lt _
/-- The number of so many bytes from a place on. -/
def num (l : List UInt8) (a : Nat) : Nat → Nat
  | 0 => 0
  | n + 1 => num l a n + at8 l (a + n) * 256 ^ n
theorem or_step (X b P j : Nat) (hP : 2 ^ j = P) (hb : b < 256) (hX : X % (256 * P) = 0) (hlt : X + b * P < 18446744073709551616) (i k : Int) (hi : i = (X : Int)) (hk : k = ((b * P : Nat) : Int)) : bits .or .u64 i k = ((X + b * P : Nat) : Int) := by
  subst hi hk
  rw [bits_or_u64_nat X (b * P) (by omega) (by omega)]
  obtain ⟨x, rfl⟩ : ∃ x, X = (256 * P) * x := ⟨X / (256 * P), by have := Nat.div_add_mod X (256 * P); omega⟩
  have h2 : 256 * P = 2 ^ (j + 8) := by rw [Nat.pow_add, hP, Nat.mul_comm]
  rw [h2]
  have h3 : b * P < 2 ^ (j + 8) := by rw [← h2]; exact Nat.mul_lt_mul_of_pos_right hb (by rw [← hP]; exact Nat.two_pow_pos j)
  rw [Nat.two_pow_add_eq_or_of_lt h3]
theorem or_zero (X : Nat) (hlt : X < 18446744073709551616) (i : Int) (hi : i = (X : Int)) : bits .or .u64 0 i = (X : Int) := by
  subst hi
  have h := bits_or_u64_nat 0 X (by omega) hlt
  rw [Nat.zero_or] at h
  exact h
theorem or_two (X Y j : Nat) (hY : Y < 2 ^ j) (hX : X % 2 ^ j = 0) (hlt : X + Y < 18446744073709551616) (i k : Int) (hi : i = (X : Int)) (hk : k = (Y : Int)) : bits .or .u64 i k = ((X + Y : Nat) : Int) := by
  subst hi hk
  rw [bits_or_u64_nat X Y (by omega) (by omega)]
  obtain ⟨x, rfl⟩ : ∃ x, X = 2 ^ j * x := ⟨X / 2 ^ j, by have := Nat.div_add_mod X (2 ^ j); omega⟩
  rw [Nat.two_pow_add_eq_or_of_lt hY]
def ReadE (v : Nat) (w : World) (e : Ending) (w' : World) : Prop := e = .returned (.tuple #[.int .u64 v, .bool true]) ∧ ∃ n, w' = w.drewN n
section
variable {w w' : World} {B g N at' wd : Nat} {l : List UInt8}
set_option maxHeartbeats 4000000 in
theorem read_1 (h : Rm w B g N at' wd l) (a : Nat) (ha : a + 1 ≤ N) : Calls Try.prog 26 #[.pointer (some ⟨B, 0, none⟩), .int .u64 a, .int .i64 1] w (ReadE (num l a 1) w) := by
  have hN := h.top
  have hl := h.len
  have c0 : w.cell? ⟨B, 0, none⟩ = some (.slice (some ⟨g, 0, none⟩) N N) := h.box.read 0
  have hr := run_slice_mem h a (by omega)
  rw [if_neg (by omega)] at hr
  have HT := Lib.hid (fun wx (hx : Rm wx B g N at' wd l) => there_any hx a 1)
  rw [decide_eq_true ha] at HT
  have HM := Lib.hid h
  have cell : ∀ i, i < N → w.cell? ⟨g, i, none⟩ = some (.int .u8 (at8 l i)) := fun i hi => by
    rw [h.mem.read i, vals_get (show i < l.length by omega), at8, List.getD, List.getElem?_eq_getElem (show i < l.length by omega)]; rfl
  have d0 := cell (a) (by omega)
  have b0 := at8_lt l (a)
  have hnum : num l a 1 = at8 l (a) := by simp only [num, Nat.pow_zero, Nat.mul_one, Nat.zero_add, Nat.add_zero] <;> omega
  rw [hnum]
  generalize at8 l (a) = u0 at d0 b0 ⊢
  have EE := Lib.hid (or_zero u0 (by omega) _ rfl)
  have k00 : (0 : Int) < ((N - a : Nat) : Int) := by omega
  generalize hna : N - a = m at hr k00
  have HNA := Lib.hid hna
  clear h hna hl cell
  go_enter Try.func26, Try.ntmps26
  go_wp2_with (first | (go_at_call 47; refine (width_any _ _).mono ?_; rintro e w' ⟨rfl, rfl⟩) | (go_at_call 37; refine (HT.out _ HM.out).mono ?_; rintro e w' ⟨rfl, rfl⟩))
  go_ret2
  exact ⟨congrArg (fun z => Ending.returned (.tuple #[.int .u64 z, .bool true])) EE.out, 0, rfl⟩
set_option maxHeartbeats 4000000 in
theorem read_2 (h : Rm w B g N at' wd l) (a : Nat) (ha : a + 2 ≤ N) : Calls Try.prog 26 #[.pointer (some ⟨B, 0, none⟩), .int .u64 a, .int .i64 2] w (ReadE (num l a 2) w) := by
  have hN := h.top
  have hl := h.len
  have c0 : w.cell? ⟨B, 0, none⟩ = some (.slice (some ⟨g, 0, none⟩) N N) := h.box.read 0
  have hr := run_slice_mem h a (by omega)
  rw [if_neg (by omega)] at hr
  have HT := Lib.hid (fun wx (hx : Rm wx B g N at' wd l) => there_any hx a 2)
  rw [decide_eq_true ha] at HT
  have HM := Lib.hid h
  have cell : ∀ i, i < N → w.cell? ⟨g, i, none⟩ = some (.int .u8 (at8 l i)) := fun i hi => by
    rw [h.mem.read i, vals_get (show i < l.length by omega), at8, List.getD, List.getElem?_eq_getElem (show i < l.length by omega)]; rfl
  have d0 := cell (a) (by omega)
  have b0 := at8_lt l (a)
  have d1 := cell (a + 1) (by omega)
  have b1 := at8_lt l (a + 1)
  have hnum : num l a 2 = at8 l (a + 1) * 256 + at8 l (a) := by simp only [num, Nat.pow_zero, Nat.mul_one, Nat.zero_add, Nat.add_zero] <;> omega
  rw [hnum]
  generalize at8 l (a) = u0 at d0 b0 ⊢
  generalize at8 l (a + 1) = u1 at d1 b1 ⊢
  have E1 := or_zero (u1 * 256) (by omega) ((u1 : Int) * 256) (by omega)
  have F0 := or_step (u1 * 256) u0 1 0 (by decide) b0 (by omega) (by omega) _ ((u0 : Int)) E1 (by omega)
  rw [Nat.mul_one] at F0
  have EE := Lib.hid F0
  clear E1 F0
  have k00 : (0 : Int) < ((N - a : Nat) : Int) := by omega
  have k01 : (1 : Int) < ((N - a : Nat) : Int) := by omega
  generalize hna : N - a = m at hr k00 k01
  have HNA := Lib.hid hna
  clear h hna hl cell
  go_enter Try.func26, Try.ntmps26
  go_wp2_with (first | (go_at_call 47; refine (width_any _ _).mono ?_; rintro e w' ⟨rfl, rfl⟩) | (go_at_call 37; refine (HT.out _ HM.out).mono ?_; rintro e w' ⟨rfl, rfl⟩))
  go_ret2
  exact ⟨congrArg (fun z => Ending.returned (.tuple #[.int .u64 z, .bool true])) EE.out, 0, rfl⟩
set_option maxHeartbeats 4000000 in
theorem read_4 (h : Rm w B g N at' wd l) (a : Nat) (ha : a + 4 ≤ N) : Calls Try.prog 26 #[.pointer (some ⟨B, 0, none⟩), .int .u64 a, .int .i64 4] w (ReadE (num l a 4) w) := by
  have hN := h.top
  have hl := h.len
  have c0 : w.cell? ⟨B, 0, none⟩ = some (.slice (some ⟨g, 0, none⟩) N N) := h.box.read 0
  have hr := run_slice_mem h a (by omega)
  rw [if_neg (by omega)] at hr
  have HT := Lib.hid (fun wx (hx : Rm wx B g N at' wd l) => there_any hx a 4)
  rw [decide_eq_true ha] at HT
  have HM := Lib.hid h
  have cell : ∀ i, i < N → w.cell? ⟨g, i, none⟩ = some (.int .u8 (at8 l i)) := fun i hi => by
    rw [h.mem.read i, vals_get (show i < l.length by omega), at8, List.getD, List.getElem?_eq_getElem (show i < l.length by omega)]; rfl
  have d0 := cell (a) (by omega)
  have b0 := at8_lt l (a)
  have d1 := cell (a + 1) (by omega)
  have b1 := at8_lt l (a + 1)
  have d2 := cell (a + 2) (by omega)
  have b2 := at8_lt l (a + 2)
  have d3 := cell (a + 3) (by omega)
  have b3 := at8_lt l (a + 3)
  have hnum : num l a 4 = at8 l (a + 3) * 16777216 + at8 l (a + 2) * 65536 + at8 l (a + 1) * 256 + at8 l (a) := by simp only [num, Nat.pow_zero, Nat.mul_one, Nat.zero_add, Nat.add_zero] <;> omega
  rw [hnum]
  generalize at8 l (a) = u0 at d0 b0 ⊢
  generalize at8 l (a + 1) = u1 at d1 b1 ⊢
  generalize at8 l (a + 2) = u2 at d2 b2 ⊢
  generalize at8 l (a + 3) = u3 at d3 b3 ⊢
  have E3 := or_step (u3 * 16777216) u2 65536 16 (by decide) b2 (by omega) (by omega) ((u3 : Int) * 16777216) ((u2 : Int) * 65536) (by omega) (by omega)
  have E2 := or_zero (u3 * 16777216 + u2 * 65536) (by omega) _ E3
  have F1 := or_step (u3 * 16777216 + u2 * 65536) u1 256 8 (by decide) b1 (by omega) (by omega) _ ((u1 : Int) * 256) E2 (by omega)
  have F0 := or_step (u3 * 16777216 + u2 * 65536 + u1 * 256) u0 1 0 (by decide) b0 (by omega) (by omega) _ ((u0 : Int)) F1 (by omega)
  rw [Nat.mul_one] at F0
  have EE := Lib.hid F0
  clear E3 E2 F1 F0
  have k00 : (0 : Int) < ((N - a : Nat) : Int) := by omega
  have k01 : (1 : Int) < ((N - a : Nat) : Int) := by omega
  have k02 : (2 : Int) < ((N - a : Nat) : Int) := by omega
  have k03 : (3 : Int) < ((N - a : Nat) : Int) := by omega
  generalize hna : N - a = m at hr k00 k01 k02 k03
  have HNA := Lib.hid hna
  clear h hna hl cell
  go_enter Try.func26, Try.ntmps26
  go_wp2_with (first | (go_at_call 47; refine (width_any _ _).mono ?_; rintro e w' ⟨rfl, rfl⟩) | (go_at_call 37; refine (HT.out _ HM.out).mono ?_; rintro e w' ⟨rfl, rfl⟩))
  go_quiet (fail)
  go_wp2
  go_ret2
  exact ⟨congrArg (fun z => Ending.returned (.tuple #[.int .u64 z, .bool true])) EE.out, _, rfl⟩
set_option maxHeartbeats 4000000 in
theorem read_8 (h : Rm w B g N at' wd l) (a : Nat) (ha : a + 8 ≤ N) : Calls Try.prog 26 #[.pointer (some ⟨B, 0, none⟩), .int .u64 a, .int .i64 8] w (ReadE (num l a 8) w) := by
  have hN := h.top
  have hl := h.len
  have c0 : w.cell? ⟨B, 0, none⟩ = some (.slice (some ⟨g, 0, none⟩) N N) := h.box.read 0
  have hr := run_slice_mem h a (by omega)
  rw [if_neg (by omega)] at hr
  have HT := Lib.hid (fun wx (hx : Rm wx B g N at' wd l) => there_any hx a 8)
  rw [decide_eq_true ha] at HT
  have HM := Lib.hid h
  have cell : ∀ i, i < N → w.cell? ⟨g, i, none⟩ = some (.int .u8 (at8 l i)) := fun i hi => by
    rw [h.mem.read i, vals_get (show i < l.length by omega), at8, List.getD, List.getElem?_eq_getElem (show i < l.length by omega)]; rfl
  have d0 := cell (a) (by omega)
  have b0 := at8_lt l (a)
  have d1 := cell (a + 1) (by omega)
  have b1 := at8_lt l (a + 1)
  have d2 := cell (a + 2) (by omega)
  have b2 := at8_lt l (a + 2)
  have d3 := cell (a + 3) (by omega)
  have b3 := at8_lt l (a + 3)
  have d4 := cell (a + 4) (by omega)
  have b4 := at8_lt l (a + 4)
  have d5 := cell (a + 5) (by omega)
  have b5 := at8_lt l (a + 5)
  have d6 := cell (a + 6) (by omega)
  have b6 := at8_lt l (a + 6)
  have d7 := cell (a + 7) (by omega)
  have b7 := at8_lt l (a + 7)
  have hnum : num l a 8 = at8 l (a + 7) * 72057594037927936 + at8 l (a + 6) * 281474976710656 + at8 l (a + 5) * 1099511627776 + at8 l (a + 4) * 4294967296 + at8 l (a + 3) * 16777216 + at8 l (a + 2) * 65536 + at8 l (a + 1) * 256 + at8 l (a) := by simp only [num, Nat.pow_zero, Nat.mul_one, Nat.zero_add, Nat.add_zero] <;> omega
  rw [hnum]
  generalize at8 l (a) = u0 at d0 b0 ⊢
  generalize at8 l (a + 1) = u1 at d1 b1 ⊢
  generalize at8 l (a + 2) = u2 at d2 b2 ⊢
  generalize at8 l (a + 3) = u3 at d3 b3 ⊢
  generalize at8 l (a + 4) = u4 at d4 b4 ⊢
  generalize at8 l (a + 5) = u5 at d5 b5 ⊢
  generalize at8 l (a + 6) = u6 at d6 b6 ⊢
  generalize at8 l (a + 7) = u7 at d7 b7 ⊢
  have E6 := or_step (u7 * 72057594037927936) u6 281474976710656 48 (by decide) b6 (by omega) (by omega) ((u7 : Int) * 72057594037927936) ((u6 : Int) * 281474976710656) (by omega) (by omega)
  have E5 := or_step (u7 * 72057594037927936 + u6 * 281474976710656) u5 1099511627776 40 (by decide) b5 (by omega) (by omega) _ ((u5 : Int) * 1099511627776) E6 (by omega)
  have E4 := or_step (u7 * 72057594037927936 + u6 * 281474976710656 + u5 * 1099511627776) u4 4294967296 32 (by decide) b4 (by omega) (by omega) _ ((u4 : Int) * 4294967296) E5 (by omega)
  have E3 := or_step (u3 * 16777216) u2 65536 16 (by decide) b2 (by omega) (by omega) ((u3 : Int) * 16777216) ((u2 : Int) * 65536) (by omega) (by omega)
  have E2 := or_two (u7 * 72057594037927936 + u6 * 281474976710656 + u5 * 1099511627776 + u4 * 4294967296) (u3 * 16777216 + u2 * 65536) 32 (by omega) (by omega) (by omega) _ _ E4 E3
  have F1 := or_step (u7 * 72057594037927936 + u6 * 281474976710656 + u5 * 1099511627776 + u4 * 4294967296 + u3 * 16777216 + u2 * 65536) u1 256 8 (by decide) b1 (by omega) (by omega) _ ((u1 : Int) * 256) (E2.trans (by omega)) (by omega)
  have F0 := or_step (u7 * 72057594037927936 + u6 * 281474976710656 + u5 * 1099511627776 + u4 * 4294967296 + u3 * 16777216 + u2 * 65536 + u1 * 256) u0 1 0 (by decide) b0 (by omega) (by omega) _ ((u0 : Int)) F1 (by omega)
  rw [Nat.mul_one] at F0
  have EE := Lib.hid F0
  clear E6 E5 E4 E3 E2 F1 F0
  have k00 : (0 : Int) < ((N - a : Nat) : Int) := by omega
  have k01 : (1 : Int) < ((N - a : Nat) : Int) := by omega
  have k02 : (2 : Int) < ((N - a : Nat) : Int) := by omega
  have k03 : (3 : Int) < ((N - a : Nat) : Int) := by omega
  have k04 : (4 : Int) < ((N - a : Nat) : Int) := by omega
  have k05 : (5 : Int) < ((N - a : Nat) : Int) := by omega
  have k06 : (6 : Int) < ((N - a : Nat) : Int) := by omega
  have k07 : (7 : Int) < ((N - a : Nat) : Int) := by omega
  generalize hna : N - a = m at hr k00 k01 k02 k03 k04 k05 k06 k07
  have HNA := Lib.hid hna
  clear h hna hl cell
  go_enter Try.func26, Try.ntmps26
  go_wp2_with (first | (go_at_call 47; refine (width_any _ _).mono ?_; rintro e w' ⟨rfl, rfl⟩) | (go_at_call 37; refine (HT.out _ HM.out).mono ?_; rintro e w' ⟨rfl, rfl⟩))
  go_quiet (fail)
  go_wp2
  go_quiet (fail)
  go_wp2
  go_ret2
  exact ⟨congrArg (fun z => Ending.returned (.tuple #[.int .u64 z, .bool true])) EE.out, _, rfl⟩
end
end Go.Proofs.Ytjdedgfbonlmkaa
