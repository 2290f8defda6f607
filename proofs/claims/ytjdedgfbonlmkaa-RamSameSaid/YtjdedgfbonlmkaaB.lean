/- A memory: Write, Read, Bytes, Put, Clear. -/
import Derived.Test.YtjdedgfbonlmkaaA
set_option linter.unusedVariables false
set_option linter.unusedSimpArgs false
namespace Go.Proofs.Ytjdedgfbonlmkaa
open Go.RowKit
/-- A number's byte. -/
def byteN (x k : Nat) : UInt8 := UInt8.ofNat (x / 256 ^ k % 256)
theorem byteN_val (x k : Nat) : ((byteN x k).toNat : Int) = ((x / 256 ^ k % 256 : Nat) : Int) := by
  unfold byteN
  rw [UInt8.toNat_ofNat']; omega
theorem bv (x k p : Nat) (hp : 256 ^ k = p) (v : Int) (hv : v = ((x / p % 256 : Nat) : Int)) : Value.int .u8 v = .int .u8 (byteN x k).toNat := by
  rw [byteN_val, hp, hv]
/-- So many of a number's bytes laid. -/
def lay (l : List UInt8) (a x : Nat) : Nat → List UInt8
  | 0 => l
  | k + 1 => (lay (l.set (a + k) (byteN x k)) a x k)
theorem lay_len (l : List UInt8) (a x : Nat) : ∀ k, (lay l a x k).length = l.length
  | 0 => rfl
  | k + 1 => by
    show (lay (l.set (a + k) (byteN x k)) a x k).length = _
    rw [lay_len _ a x k, List.length_set]
def widB (v : Int) : Bool := decide (v = 1 ∨ v = 2 ∨ v = 4 ∨ v = 8)
def wrB (N a : Nat) (v : Int) : Bool := decide ((v = 1 ∨ v = 2 ∨ v = 4 ∨ v = 8) ∧ (a : Int) + v ≤ N)
section
variable {w w' : World} {B g N at' wd : Nat} {l : List UInt8}
theorem run_slice_mem (h : Rm w B g N at' wd l) (a : Nat) (ha : a ≤ N) (wx : World) : (Instr.slice 45 (.slice (some ⟨g, 0, none⟩) N N) (some (.int .u64 a)) none none).run Try.prog wx = .ok (.slice (some (if N = a then (⟨g, 0, none⟩ : Addr) else ⟨g, a, none⟩)) (N - a) (N - a)) wx := by
  obtain ⟨i0, hi, iz0, iz1, iz2⟩ := info_parts info5
  have hN := h.top
  have h1 : (0 : Int) ≤ (a : Int) ∧ (a : Int) ≤ (N : Int) := by omega
  simp [Instr.slice, Instr.sliceBounds, Instr.sliceBound, run_underlying Try.underlying45, sizeOf, typeInfo, hi, iz1, Result.andThen, h1, ha, go_sem]
  by_cases hc : N = a <;> simp [hc]
theorem Rm.stored (h : Rm w B g N at' wd l) (i : Nat) (u : Value) (c : UInt8) (hu : u = .int .u8 c.toNat) : Rm (w.setCell ⟨g, i, none⟩ u) B g N at' wd (l.set i c) := by subst hu; exact h.byte i c
set_option maxHeartbeats 4000000 in
theorem write8 (h : Rm w B g N at' wd l) (a x : Nat) (hx : x < 18446744073709551616) (ha : a + 8 ≤ N) : Calls Try.prog 24 #[.pointer (some ⟨B, 0, none⟩), .int .u64 a, .int .u64 x, .int .i64 8] w fun e w' => e = .returned (.bool true) ∧ Rm w' B g N (gone (endB at' a 8) at') (gone (endB at' a 8) wd) (lay l a x 8) ∧ Touch (Own2 B g) w w' := by
  have hN := h.top
  have hl := h.len
  have c0 : w.cell? ⟨B, 0, none⟩ = some (.slice (some ⟨g, 0, none⟩) N N) := h.box.read 0
  have hr := run_slice_mem h a (by omega)
  rw [if_neg (by omega)] at hr
  have HT := Lib.hid (fun wx (hx : Rm wx B g N at' wd l) => there_any hx a 8)
  rw [decide_eq_true ha] at HT
  have HM := Lib.hid h
  have cell : ∀ i, i < N → ∃ u, w.cell? ⟨g, i, none⟩ = some u := fun i hi => ⟨_, (h.mem.read i).trans (vals_get (by omega))⟩
  have f0 : ∀ i, w.frozen? ⟨g, i, none⟩ = false := fun i => h.mem.warm i
  obtain ⟨u0, d0⟩ := cell a (by omega)
  obtain ⟨u1, d1⟩ := cell (a + 1) (by omega)
  obtain ⟨u2, d2⟩ := cell (a + 2) (by omega)
  obtain ⟨u3, d3⟩ := cell (a + 3) (by omega)
  obtain ⟨u4, d4⟩ := cell (a + 4) (by omega)
  obtain ⟨u5, d5⟩ := cell (a + 5) (by omega)
  obtain ⟨u6, d6⟩ := cell (a + 6) (by omega)
  obtain ⟨u7, d7⟩ := cell (a + 7) (by omega)
  have k0 : (0 : Int) < ((N - a : Nat) : Int) := by omega
  have k1 : (1 : Int) < ((N - a : Nat) : Int) := by omega
  have k2 : (2 : Int) < ((N - a : Nat) : Int) := by omega
  have k3 : (3 : Int) < ((N - a : Nat) : Int) := by omega
  have k4 : (4 : Int) < ((N - a : Nat) : Int) := by omega
  have k5 : (5 : Int) < ((N - a : Nat) : Int) := by omega
  have k6 : (6 : Int) < ((N - a : Nat) : Int) := by omega
  have k7 : (7 : Int) < ((N - a : Nat) : Int) := by omega
  generalize hna : N - a = n at hr k0 k1 k2 k3 k4 k5 k6 k7
  have HNA := Lib.hid hna
  clear h cell hna hl
  have HE := Lib.hid (fun wx (hx : Rm wx B g N at' wd (lay l a x 8)) => wrote_any hx a 8 (by omega))
  go_enter Try.func24, Try.ntmps24
  go_wp2_with (first | (go_at_call 47; refine (width_any 8 _).mono ?_; rintro e w' ⟨rfl, rfl⟩) | (go_at_call 37; refine (HT.out _ HM.out).mono ?_; rintro e w' ⟨rfl, rfl⟩) | (go_at_call 46; refine (HE.out _ ((((((((HM.out.stored (a + 7) _ (byteN x 7) (bv x 7 72057594037927936 (by decide) _ (by omega))).stored (a + 6) _ (byteN x 6) (bv x 6 281474976710656 (by decide) _ (by omega))).stored (a + 5) _ (byteN x 5) (bv x 5 1099511627776 (by decide) _ (by omega))).stored (a + 4) _ (byteN x 4) (bv x 4 4294967296 (by decide) _ (by omega))).stored (a + 3) _ (byteN x 3) (bv x 3 16777216 (by decide) _ (by omega))).stored (a + 2) _ (byteN x 2) (bv x 2 65536 (by decide) _ (by omega))).stored (a + 1) _ (byteN x 1) (bv x 1 256 (by decide) _ (by omega))).stored a _ (byteN x 0) (bv x 0 1 (by decide) _ (by omega)))).mono ?_; rintro e w9 ⟨rfl, hr9, ht9⟩))
  go_ret
  exact ⟨rfl, hr9, (((((((((Touch.refl (Own2 B g) w).put (.inl (.inr rfl)) _).put (.inl (.inr rfl)) _).put (.inl (.inr rfl)) _).put (.inl (.inr rfl)) _).put (.inl (.inr rfl)) _).put (.inl (.inr rfl)) _).put (.inl (.inr rfl)) _).put (.inl (.inr rfl)) _).trans (ht9.mono fun k hk => .inl hk)⟩
set_option maxHeartbeats 4000000 in
theorem write4 (h : Rm w B g N at' wd l) (a x : Nat) (hx : x < 18446744073709551616) (ha : a + 4 ≤ N) : Calls Try.prog 24 #[.pointer (some ⟨B, 0, none⟩), .int .u64 a, .int .u64 x, .int .i64 4] w fun e w' => e = .returned (.bool true) ∧ Rm w' B g N (gone (endB at' a 4) at') (gone (endB at' a 4) wd) (lay l a x 4) ∧ Touch (Own2 B g) w w' := by
  have hN := h.top
  have hl := h.len
  have c0 : w.cell? ⟨B, 0, none⟩ = some (.slice (some ⟨g, 0, none⟩) N N) := h.box.read 0
  have hr := run_slice_mem h a (by omega)
  rw [if_neg (by omega)] at hr
  have HT := Lib.hid (fun wx (hx : Rm wx B g N at' wd l) => there_any hx a 4)
  rw [decide_eq_true ha] at HT
  have HM := Lib.hid h
  have cell : ∀ i, i < N → ∃ u, w.cell? ⟨g, i, none⟩ = some u := fun i hi => ⟨_, (h.mem.read i).trans (vals_get (by omega))⟩
  have f0 : ∀ i, w.frozen? ⟨g, i, none⟩ = false := fun i => h.mem.warm i
  obtain ⟨u0, d0⟩ := cell a (by omega)
  obtain ⟨u1, d1⟩ := cell (a + 1) (by omega)
  obtain ⟨u2, d2⟩ := cell (a + 2) (by omega)
  obtain ⟨u3, d3⟩ := cell (a + 3) (by omega)
  have k0 : (0 : Int) < ((N - a : Nat) : Int) := by omega
  have k1 : (1 : Int) < ((N - a : Nat) : Int) := by omega
  have k2 : (2 : Int) < ((N - a : Nat) : Int) := by omega
  have k3 : (3 : Int) < ((N - a : Nat) : Int) := by omega
  generalize hna : N - a = n at hr k0 k1 k2 k3
  have HNA := Lib.hid hna
  clear h cell hna hl
  have HE := Lib.hid (fun wx (hx : Rm wx B g N at' wd (lay l a x 4)) => wrote_any hx a 4 (by omega))
  go_enter Try.func24, Try.ntmps24
  go_wp2_with (first | (go_at_call 47; refine (width_any 4 _).mono ?_; rintro e w' ⟨rfl, rfl⟩) | (go_at_call 37; refine (HT.out _ HM.out).mono ?_; rintro e w' ⟨rfl, rfl⟩) | (go_at_call 46; refine (HE.out _ ((((HM.out.stored (a + 3) _ (byteN x 3) (bv x 3 16777216 (by decide) _ (by omega))).stored (a + 2) _ (byteN x 2) (bv x 2 65536 (by decide) _ (by omega))).stored (a + 1) _ (byteN x 1) (bv x 1 256 (by decide) _ (by omega))).stored a _ (byteN x 0) (bv x 0 1 (by decide) _ (by omega)))).mono ?_; rintro e w9 ⟨rfl, hr9, ht9⟩))
  go_ret
  exact ⟨rfl, hr9, (((((Touch.refl (Own2 B g) w).put (.inl (.inr rfl)) _).put (.inl (.inr rfl)) _).put (.inl (.inr rfl)) _).put (.inl (.inr rfl)) _).trans (ht9.mono fun k hk => .inl hk)⟩
set_option maxHeartbeats 4000000 in
theorem write2 (h : Rm w B g N at' wd l) (a x : Nat) (hx : x < 18446744073709551616) (ha : a + 2 ≤ N) : Calls Try.prog 24 #[.pointer (some ⟨B, 0, none⟩), .int .u64 a, .int .u64 x, .int .i64 2] w fun e w' => e = .returned (.bool true) ∧ Rm w' B g N (gone (endB at' a 2) at') (gone (endB at' a 2) wd) (lay l a x 2) ∧ Touch (Own2 B g) w w' := by
  have hN := h.top
  have hl := h.len
  have c0 : w.cell? ⟨B, 0, none⟩ = some (.slice (some ⟨g, 0, none⟩) N N) := h.box.read 0
  have hr := run_slice_mem h a (by omega)
  rw [if_neg (by omega)] at hr
  have HT := Lib.hid (fun wx (hx : Rm wx B g N at' wd l) => there_any hx a 2)
  rw [decide_eq_true ha] at HT
  have HM := Lib.hid h
  have cell : ∀ i, i < N → ∃ u, w.cell? ⟨g, i, none⟩ = some u := fun i hi => ⟨_, (h.mem.read i).trans (vals_get (by omega))⟩
  have f0 : ∀ i, w.frozen? ⟨g, i, none⟩ = false := fun i => h.mem.warm i
  obtain ⟨u0, d0⟩ := cell a (by omega)
  obtain ⟨u1, d1⟩ := cell (a + 1) (by omega)
  have k0 : (0 : Int) < ((N - a : Nat) : Int) := by omega
  have k1 : (1 : Int) < ((N - a : Nat) : Int) := by omega
  generalize hna : N - a = n at hr k0 k1
  have HNA := Lib.hid hna
  clear h cell hna hl
  have HE := Lib.hid (fun wx (hx : Rm wx B g N at' wd (lay l a x 2)) => wrote_any hx a 2 (by omega))
  go_enter Try.func24, Try.ntmps24
  go_wp2_with (first | (go_at_call 47; refine (width_any 2 _).mono ?_; rintro e w' ⟨rfl, rfl⟩) | (go_at_call 37; refine (HT.out _ HM.out).mono ?_; rintro e w' ⟨rfl, rfl⟩) | (go_at_call 46; refine (HE.out _ ((HM.out.stored (a + 1) _ (byteN x 1) (bv x 1 256 (by decide) _ (by omega))).stored a _ (byteN x 0) (bv x 0 1 (by decide) _ (by omega)))).mono ?_; rintro e w9 ⟨rfl, hr9, ht9⟩))
  go_ret
  exact ⟨rfl, hr9, (((Touch.refl (Own2 B g) w).put (.inl (.inr rfl)) _).put (.inl (.inr rfl)) _).trans (ht9.mono fun k hk => .inl hk)⟩
set_option maxHeartbeats 4000000 in
theorem write1 (h : Rm w B g N at' wd l) (a x : Nat) (hx : x < 18446744073709551616) (ha : a + 1 ≤ N) : Calls Try.prog 24 #[.pointer (some ⟨B, 0, none⟩), .int .u64 a, .int .u64 x, .int .i64 1] w fun e w' => e = .returned (.bool true) ∧ Rm w' B g N (gone (endB at' a 1) at') (gone (endB at' a 1) wd) (lay l a x 1) ∧ Touch (Own2 B g) w w' := by
  have hN := h.top
  have hl := h.len
  have c0 : w.cell? ⟨B, 0, none⟩ = some (.slice (some ⟨g, 0, none⟩) N N) := h.box.read 0
  have hr := run_slice_mem h a (by omega)
  rw [if_neg (by omega)] at hr
  have HT := Lib.hid (fun wx (hx : Rm wx B g N at' wd l) => there_any hx a 1)
  rw [decide_eq_true ha] at HT
  have HM := Lib.hid h
  have cell : ∀ i, i < N → ∃ u, w.cell? ⟨g, i, none⟩ = some u := fun i hi => ⟨_, (h.mem.read i).trans (vals_get (by omega))⟩
  have f0 : ∀ i, w.frozen? ⟨g, i, none⟩ = false := fun i => h.mem.warm i
  obtain ⟨u0, d0⟩ := cell a (by omega)
  have k0 : (0 : Int) < ((N - a : Nat) : Int) := by omega
  generalize hna : N - a = n at hr k0
  have HNA := Lib.hid hna
  clear h cell hna hl
  have HE := Lib.hid (fun wx (hx : Rm wx B g N at' wd (lay l a x 1)) => wrote_any hx a 1 (by omega))
  go_enter Try.func24, Try.ntmps24
  go_wp2_with (first | (go_at_call 47; refine (width_any 1 _).mono ?_; rintro e w' ⟨rfl, rfl⟩) | (go_at_call 37; refine (HT.out _ HM.out).mono ?_; rintro e w' ⟨rfl, rfl⟩) | (go_at_call 46; refine (HE.out _ (HM.out.stored a _ (byteN x 0) (bv x 0 1 (by decide) _ (by omega)))).mono ?_; rintro e w9 ⟨rfl, hr9, ht9⟩))
  go_ret
  exact ⟨rfl, hr9, ((Touch.refl (Own2 B g) w).put (.inl (.inr rfl)) _).trans (ht9.mono fun k hk => .inl hk)⟩
theorem write_bad (h : Rm w B g N at' wd l) (a x : Nat) (v : Int) (hb : ¬ ((v = 1 ∨ v = 2 ∨ v = 4 ∨ v = 8) ∧ (a : Int) + v ≤ N)) : Calls Try.prog 24 #[.pointer (some ⟨B, 0, none⟩), .int .u64 a, .int .u64 x, .int .i64 v] w fun e w' => e = .returned (.bool false) ∧ w = w' := by
  have HW := Lib.hid (fun wx => width_any v wx)
  have HM := Lib.hid h
  by_cases hv : v = 1 ∨ v = 2 ∨ v = 4 ∨ v = 8
  · obtain ⟨n, hn, rfl⟩ : ∃ n : Nat, (n = 1 ∨ n = 2 ∨ n = 4 ∨ n = 8) ∧ v = n := ⟨v.toNat, by omega, by omega⟩
    rw [decide_eq_true hv] at HW
    have HT := Lib.hid (fun wx (hx : Rm wx B g N at' wd l) => there_any hx a n)
    rw [decide_eq_false (show ¬ a + n ≤ N from fun h => hb ⟨hv, by omega⟩)] at HT
    clear hb hv h
    obtain rfl | rfl | rfl | rfl := hn
    all_goals
      go_enter Try.func24, Try.ntmps24
      go_wp2_with (first | (go_at_call 47; refine (HW.out _).mono ?_; rintro e w' ⟨rfl, rfl⟩) | (go_at_call 37; refine (HT.out _ HM.out).mono ?_; rintro e w' ⟨rfl, rfl⟩))
      go_ret
      exact ⟨rfl, rfl⟩
  · rw [decide_eq_false hv] at HW
    clear hb hv h
    go_enter Try.func24, Try.ntmps24
    go_wp2_with (go_at_call 47; refine (HW.out _).mono ?_; rintro e w' ⟨rfl, rfl⟩)
    go_ret
    exact ⟨rfl, rfl⟩
/-- What a write makes of a memory. -/
theorem write_any (h : Rm w B g N at' wd l) (a x : Nat) (v : Int) (hx : x < 18446744073709551616) : Calls Try.prog 24 #[.pointer (some ⟨B, 0, none⟩), .int .u64 a, .int .u64 x, .int .i64 v] w fun e w' => e = .returned (.bool (wrB N a v)) ∧ Rm w' B g N (gone (wrB N a v && endB at' a v.toNat) at') (gone (wrB N a v && endB at' a v.toNat) wd) (if wrB N a v = true then lay l a x v.toNat else l) ∧ Touch (Own2 B g) w w' := by
  by_cases hg : (v = 1 ∨ v = 2 ∨ v = 4 ∨ v = 8) ∧ (a : Int) + v ≤ N
  · rw [wrB, decide_eq_true hg]
    rw [Bool.true_and, if_pos rfl]
    obtain ⟨hv, ha⟩ := hg
    obtain rfl | rfl | rfl | rfl := hv
    · exact write1 h a x hx (by omega)
    · exact write2 h a x hx (by omega)
    · exact write4 h a x hx (by omega)
    · exact write8 h a x hx (by omega)
  · rw [wrB, decide_eq_false hg]
    rw [Bool.false_and, if_neg (by decide)]
    refine (write_bad h a x v hg).mono ?_
    rintro e w' ⟨rfl, rfl⟩
    exact ⟨rfl, h, Touch.refl _ _⟩
end
end Go.Proofs.Ytjdedgfbonlmkaa
