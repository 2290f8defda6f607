/- The document's line: writes. -/
import Derived.Test.YtagcmajiomhbdaaM
set_option linter.unusedVariables false
set_option linter.unusedSimpArgs false
namespace Go.Proofs.Ytagcmajiomhbdaa
open Go.RowKit
section
variable {w w' : World} {C : Nat} {s s' : US}
theorem rwrite_bad (h : Rf w C s) (off : Nat) (v : Int) (x : Nat) (hb : ¬ (off < 8 ∧ v = 1)) : Calls Try.prog 25 #[.pointer (some ⟨C, 0, none⟩), .int .u64 off, .int .i64 v, .int .u64 x] w fun e w' => e = .returned (.bool (okR off v)) ∧ Rz C (s.Wt off v x) w w' := by
  rw [okR, decide_eq_false hb, US.Wt, if_neg hb]
  have HU := Lib.hid (Rz.same h)
  clear h
  by_cases h8 : off < 8
  · have hv : ¬ v = 1 := by omega
    have hvb : (v == 1) = false := beq_eq_false_iff_ne.2 hv
    have hvc : (v != 1) = true := bne_iff_ne.2 hv
    clear hb
    go_enter Try.func25, Try.ntmps25
    go_wp2
    go_ret
    exact ⟨rfl, HU.out⟩
  · clear hb
    go_enter Try.func25, Try.ntmps25
    go_wp2
    go_ret
    exact ⟨rfl, HU.out⟩
set_option maxHeartbeats 4000000 in
set_option maxRecDepth 100000 in
theorem rwrite_good (h : Rf w C s) (ok : s.ok) (off : Nat) (h8 : off < 8) (x : Nat) (c : UInt8) (hx : ((x : Int) % 256) = (c.toNat : Int)) (hn : s.out.length ≤ 1000000) : Calls Try.prog 25 #[.pointer (some ⟨C, 0, none⟩), .int .u64 off, .int .i64 1, .int .u64 x] w fun e w' => e = .returned (.bool true) ∧ Rz C (s.wr off c) w w' := by
  have c0 : w.cell? ⟨C, 0, none⟩ = some (.int .i64 s.ier) := Box.read h 0
  have c1 : w.cell? ⟨C, 1, none⟩ = some (.int .i64 s.lcr) := Box.read h 1
  have c2 : w.cell? ⟨C, 2, none⟩ = some (.int .i64 s.mcr) := Box.read h 2
  have c3 : w.cell? ⟨C, 3, none⟩ = some (.int .i64 s.scr) := Box.read h 3
  have c4 : w.cell? ⟨C, 4, none⟩ = some (.int .i64 s.d0) := Box.read h 4
  have c5 : w.cell? ⟨C, 5, none⟩ = some (.int .i64 s.d1) := Box.read h 5
  have c6 : w.cell? ⟨C, 6, none⟩ = some (.bool s.en) := Box.read h 6
  have c8 : w.cell? ⟨C, 8, none⟩ = some (.bool s.dn) := Box.read h 8
  have c9 : w.cell? ⟨C, 9, none⟩ = some (.string (str s.q)) := Box.read h 9
  have c10 : w.cell? ⟨C, 10, none⟩ = some (.string (str s.out)) := Box.read h 10
  have f0 := Box.warm h 0
  have f1 := Box.warm h 1
  have f2 := Box.warm h 2
  have f3 := Box.warm h 3
  have f4 := Box.warm h 4
  have f5 := Box.warm h 5
  have f6 := Box.warm h 6
  have f8 := Box.warm h 8
  have f9 := Box.warm h 9
  have f10 := Box.warm h 10
  have b0 := ok.ier
  have b1 := ok.lcr
  have hc := UInt8.toNat_lt c
  have hm2 : ((c.toNat : Int) % 2 = 0 ∧ c.toNat % 2 = 0) ∨ ((c.toNat : Int) % 2 = 1 ∧ c.toNat % 2 = 1) := by omega
  have hd2 : ((c.toNat : Int) / 2 % 2 = 0 ∧ c.toNat / 2 % 2 = 0) ∨ ((c.toNat : Int) / 2 % 2 = 1 ∧ c.toNat / 2 % 2 = 1) := by omega
  have hi2 : ((s.ier : Int) / 2 % 2 = 0 ∧ s.ier / 2 % 2 = 0) ∨ ((s.ier : Int) / 2 % 2 = 1 ∧ s.ier / 2 % 2 = 1) := by omega
  have HH := Lib.hid h
  clear h ok
  obtain rfl | rfl | rfl | rfl | rfl | rfl | rfl | rfl := cases8 h8
  · by_cases hl : 128 ≤ s.lcr
    · have e1 : s.wr 0 c = { s with d0 := c.toNat } := if_pos hl
      have HZ := Lib.hid (Rz.of HH.out 4 (.int .i64 c.toNat) { s with d0 := c.toNat } (by kernel_rfl))
      rw [e1]
      clear hm2 hd2 hi2 e1
      go_enter Try.func25, Try.ntmps25
      go_wp2
      go_ret
      exact ⟨rfl, HZ.out⟩
    · have e1 : s.wr 0 c = { s with out := s.out ++ [c], dn := true } := if_neg hl
      rw [e1]
      clear hm2 hd2 hi2 e1
      have hadd := str_snoc s.out c
      have h63 : ¬ 9223372036854775807 < (str s.out).size + 1 := by rw [str_size]; omega
      have r1 : (convert 41 9 (.slice (some ⟨w.heap.size, 0, none⟩) 1 1)).run Try.prog (w.alloc (.cells #[.int .u8 c.toNat] 5)).drew = .ok (.string ⟨#[c]⟩) (w.alloc (.cells #[.int .u8 c.toNat] 5)).drew := conv_one c w.drew
      have g10 : ∀ o : Obj, (w.alloc o).drew.cell? ⟨C, 10, none⟩ = some (.string (str s.out)) := fun o => Box.read (Box.more HH.out o) 10
      have i10 : ∀ o : Obj, (w.alloc o).drew.frozen? ⟨C, 10, none⟩ = false := fun o => Box.warm (Box.more HH.out o) 10
      go_enter Try.func25, Try.ntmps25
      go_wp2
      go_region
      have hx : Rz C { s with out := s.out ++ [c] } w ((w.alloc (.cells #[.int .u8 c.toNat] 5)).setCell ⟨C, 10, none⟩ (.string (str (s.out ++ [c])))).drew := ⟨Rf.put (s := s) (w := (w.alloc (.cells #[.int .u8 c.toNat] 5)).drew) (Box.more HH.out _) 10 _ _ (by kernel_rfl), (((Touch.refl (fun b => b = C) w).more _).put (p := ⟨C, 10, none⟩) (.inl rfl) _).drawn1⟩
      clear c0 c1 c2 c3 c4 c5 c6 c8 c9 c10 f0 f1 f2 f3 f4 f5 f6 f8 f9 f10 r1 g10 i10
      generalize ((w.alloc (.cells #[.int .u8 c.toNat] 5)).setCell ⟨C, 10, none⟩ (.string (str (s.out ++ [c])))).drew = w2 at hx ⊢
      have c8 : w2.cell? ⟨C, 8, none⟩ = some (.bool s.dn) := Box.read hx.1 8
      have f8 := Box.warm hx.1 8
      have HZ := Lib.hid (hx.put 8 (.bool true) (s2 := { s with out := s.out ++ [c], dn := true }) (by kernel_rfl))
      clear hx
      go_wp2
      go_ret
      exact ⟨rfl, HZ.out⟩
  · by_cases hl : 128 ≤ s.lcr
    · have e1 : s.wr 1 c = { s with d1 := c.toNat } := if_pos hl
      have HZ := Lib.hid (Rz.of HH.out 5 (.int .i64 c.toNat) { s with d1 := c.toNat } (by kernel_rfl))
      rw [e1]
      clear hm2 hd2 hi2 e1
      go_enter Try.func25, Try.ntmps25
      go_wp2
      go_ret
      exact ⟨rfl, HZ.out⟩
    · have e1 : s.wr 1 c = { s with dn := if s.ier / 2 % 2 = 0 ∧ c.toNat / 2 % 2 = 1 then true else s.dn, ier := c.toNat % 16 } := if_neg hl
      rw [e1]
      clear e1 hm2
      have hm16 : (c.toNat : Int) % 16 = ((c.toNat % 16 : Nat) : Int) := by omega
      generalize c.toNat % 16 = m at hm16
      have H1 := Lib.hid ((Rz.of HH.out 8 (.bool true) { s with dn := true } (by kernel_rfl)).put 0 (.int .i64 m) (s2 := { s with dn := true, ier := m }) (by kernel_rfl))
      have H0 := Lib.hid (Rz.of HH.out 0 (.int .i64 m) { s with ier := m } (by kernel_rfl))
      rcases hd2 with ⟨q1, q2⟩ | ⟨q1, q2⟩ <;> rcases hi2 with ⟨p1, p2⟩ | ⟨p1, p2⟩
      all_goals
        have HX := Lib.hid (And.intro q2 p2)
        clear q2 p2
        go_enter Try.func25, Try.ntmps25
        go_wp2
        go_ret
        refine ⟨rfl, ?_⟩
        first | exact H1.out | exact H0.out
  · have e1 : s.wr 2 c = { s with en := decide (c.toNat % 2 = 1), q := if c.toNat / 2 % 2 = 1 then [] else s.q } := rfl
    rw [e1]
    clear e1 hi2
    rcases hd2 with ⟨q1, q2⟩ | ⟨q1, q2⟩ <;> rcases hm2 with ⟨p1, p2⟩ | ⟨p1, p2⟩
    · have HX := Lib.hid (And.intro q2 p2)
      have HZ := Lib.hid (Rz.of HH.out 6 (.bool false) { s with en := false } (by kernel_rfl))
      clear q2 p2
      go_enter Try.func25, Try.ntmps25
      go_wp2
      go_ret
      refine ⟨rfl, ?_⟩
      first | (rw [HX.out.1, HX.out.2]; exact HZ.out) | (rw [HX.out.2]; exact HZ.out)
    · have HX := Lib.hid (And.intro q2 p2)
      have HZ := Lib.hid (Rz.of HH.out 6 (.bool true) { s with en := true } (by kernel_rfl))
      clear q2 p2
      go_enter Try.func25, Try.ntmps25
      go_wp2
      go_ret
      refine ⟨rfl, ?_⟩
      first | (rw [HX.out.1, HX.out.2]; exact HZ.out) | (rw [HX.out.2]; exact HZ.out)
    · have HX := Lib.hid (And.intro q2 p2)
      have HZ := Lib.hid ((Rz.of HH.out 6 (.bool false) { s with en := false } (by kernel_rfl)).put 9 (.string ⟨#[]⟩) (s2 := { s with en := false, q := [] }) (by kernel_rfl))
      clear q2 p2
      go_enter Try.func25, Try.ntmps25
      go_wp2
      go_ret
      refine ⟨rfl, ?_⟩
      first | (rw [HX.out.1, HX.out.2]; exact HZ.out) | (rw [HX.out.2]; exact HZ.out)
    · have HX := Lib.hid (And.intro q2 p2)
      have HZ := Lib.hid ((Rz.of HH.out 6 (.bool true) { s with en := true } (by kernel_rfl)).put 9 (.string ⟨#[]⟩) (s2 := { s with en := true, q := [] }) (by kernel_rfl))
      clear q2 p2
      go_enter Try.func25, Try.ntmps25
      go_wp2
      go_ret
      refine ⟨rfl, ?_⟩
      first | (rw [HX.out.1, HX.out.2]; exact HZ.out) | (rw [HX.out.2]; exact HZ.out)
  · have e1 : s.wr 3 c = { s with lcr := c.toNat } := rfl
    have HZ := Lib.hid (Rz.of HH.out 1 (.int .i64 c.toNat) { s with lcr := c.toNat } (by kernel_rfl))
    rw [e1]
    clear hm2 hd2 hi2 e1
    go_enter Try.func25, Try.ntmps25
    go_wp2
    go_ret
    exact ⟨rfl, HZ.out⟩
  · have e1 : s.wr 4 c = { s with mcr := c.toNat % 32 } := rfl
    rw [e1]
    have hm16 : (c.toNat : Int) % 32 = ((c.toNat % 32 : Nat) : Int) := by omega
    generalize c.toNat % 32 = m at hm16
    have HZ := Lib.hid (Rz.of HH.out 2 (.int .i64 m) { s with mcr := m } (by kernel_rfl))
    clear hm2 hd2 hi2 e1
    go_enter Try.func25, Try.ntmps25
    go_wp2
    go_ret
    exact ⟨rfl, HZ.out⟩
  · have HZ := Lib.hid (Rz.same HH.out)
    clear hm2 hd2 hi2
    go_enter Try.func25, Try.ntmps25
    go_wp2
    go_ret
    exact ⟨rfl, HZ.out⟩
  · have HZ := Lib.hid (Rz.same HH.out)
    clear hm2 hd2 hi2
    go_enter Try.func25, Try.ntmps25
    go_wp2
    go_ret
    exact ⟨rfl, HZ.out⟩
  · have e1 : s.wr 7 c = { s with scr := c.toNat } := rfl
    have HZ := Lib.hid (Rz.of HH.out 3 (.int .i64 c.toNat) { s with scr := c.toNat } (by kernel_rfl))
    rw [e1]
    clear hm2 hd2 hi2 e1
    go_enter Try.func25, Try.ntmps25
    go_wp2
    go_ret
    exact ⟨rfl, HZ.out⟩
theorem rwrite_any (h : Rf w C s) (ok : s.ok) (off : Nat) (v : Int) (x : Nat) (hn : s.out.length ≤ 1000000) : Calls Try.prog 25 #[.pointer (some ⟨C, 0, none⟩), .int .u64 off, .int .i64 v, .int .u64 x] w fun e w' => e = .returned (.bool (okR off v)) ∧ Rz C (s.Wt off v x) w w' := by
  by_cases hg : off < 8 ∧ v = 1
  · rw [okR, decide_eq_true hg, US.Wt, if_pos hg]
    obtain ⟨h8, rfl⟩ := hg
    exact rwrite_good h ok off h8 x (UInt8.ofNat (x % 256)) (by rw [UInt8.toNat_ofNat']; omega) hn
  · exact rwrite_bad h off v x hg
end
end Go.Proofs.Ytagcmajiomhbdaa
