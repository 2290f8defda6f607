/- A line: Read, Write, Input. -/
import Derived.Test.YtagcmajiomhbdaaB
set_option linter.unusedVariables false
set_option linter.unusedSimpArgs false
namespace Go.Proofs.Ytagcmajiomhbdaa
open Go.RowKit
section
variable {w w' w1 : World} {B : Nat} {s s' : US} {K L : Nat → Prop} {o q : Value}
theorem rv_lt (h : s.ok) (off : Nat) : s.rv off < 256 := by
  have h1 := h.ier
  have h2 := h.lcr
  have h3 := h.mcr
  have h4 := h.scr
  have h5 := h.d0
  have h6 := h.d1
  have h7 := asks_cases s
  unfold US.rv
  split
  · split
    · omega
    · split
      · omega
      · exact UInt8.toNat_lt _
  · split <;> omega
  · split <;> omega
  · omega
  · omega
  · (repeat' split) <;> omega
  · omega
  · omega
theorem cases8 {off : Nat} (h : off < 8) : off = 0 ∨ off = 1 ∨ off = 2 ∨ off = 3 ∨ off = 4 ∨ off = 5 ∨ off = 6 ∨ off = 7 := by omega
set_option maxHeartbeats 1000000 in
theorem read_any (h : Ua w B s K) (off : Nat) (ho : off < 8) (hl : off < 2 → ¬ 128 ≤ s.lcr) : Calls Try.prog 34 #[.pointer (some ⟨B, 0, none⟩), .int .u64 off] w fun e w' => e = .returned (.int .u8 (s.rv off)) ∧ Ua w' B (s.rd off) K ∧ Touch K w w' := by
  have h' := h
  obtain ⟨o, q, hv⟩ := h'
  have c1 : w.cell? ⟨B, 1, none⟩ = some (.int .u8 s.ier) := hv.box.read 1
  have c2 : w.cell? ⟨B, 2, none⟩ = some (.int .u8 s.lcr) := hv.box.read 2
  have c3 : w.cell? ⟨B, 3, none⟩ = some (.int .u8 s.mcr) := hv.box.read 3
  have c4 : w.cell? ⟨B, 4, none⟩ = some (.int .u8 s.scr) := hv.box.read 4
  have HR := Lib.hid fun hl => receive_any h hl
  have HA := Lib.hid (asked_any hv)
  have HS := Lib.hid (status_any hv)
  have HU := Lib.hid (And.intro h (Touch.refl K w))
  clear h hv
  have HV1 : Hid (off = 1 → s.rv off = s.ier) := Lib.hid fun e => by subst e; exact if_neg (hl (by decide))
  have HL := Lib.hid hl
  clear hl
  obtain rfl | rfl | rfl | rfl | rfl | rfl | rfl | rfl := cases8 ho
  all_goals
    go_enter Try.func34, Try.ntmps34
    go_wp2_with (first | (go_at_call 38; refine (HR.out (HL.out (by decide))).mono ?_; rintro e w' ⟨rfl, hz⟩) | (go_at_call 39; refine HA.out.mono ?_; rintro e w' ⟨rfl, hz⟩) | (go_at_call 40; refine HS.out.mono ?_; rintro e w' ⟨rfl, hz⟩))
    go_ret
    first | exact ⟨rfl, hz⟩ | exact ⟨rfl, HU.out⟩ | exact ⟨ret_eq (by rw [HV1.out (by decide)]), HU.out⟩
def okR (off : Nat) (v : Int) : Bool := decide (off < 8 ∧ v = 1)
def US.Rd (s : US) (off : Nat) (v : Int) : US := if off < 8 ∧ v = 1 then s.rd off else s
def US.Rv (s : US) (off : Nat) (v : Int) : Nat := if off < 8 ∧ v = 1 then s.rv off else 0
theorem Read_bad (h : Ua w B s K) (off : Nat) (v : Int) (hb : ¬ (off < 8 ∧ v = 1)) : Calls Try.prog 21 #[.pointer (some ⟨B, 0, none⟩), .int .u64 off, .int .i64 v] w fun e w' => e = .returned (.tuple #[.int .u64 (s.Rv off v), .bool (okR off v)]) ∧ Ua w' B (s.Rd off v) K ∧ Touch K w w' := by
  rw [US.Rv, if_neg hb, okR, decide_eq_false hb, US.Rd, if_neg hb]
  have HU := Lib.hid (And.intro h (Touch.refl K w))
  clear h
  by_cases h8 : off < 8
  · have hv : ¬ v = 1 := by omega
    have hvb : (v == 1) = false := beq_eq_false_iff_ne.2 hv
    have hvc : (v != 1) = true := bne_iff_ne.2 hv
    clear hb
    go_enter Try.func21, Try.ntmps21
    go_wp2
    go_ret2
    exact ⟨rfl, HU.out⟩
  · clear hb
    go_enter Try.func21, Try.ntmps21
    go_wp2
    go_ret2
    exact ⟨rfl, HU.out⟩
set_option maxHeartbeats 1000000 in
theorem Read_good (h : Ua w B s K) (off : Nat) (h8 : off < 8) : Calls Try.prog 21 #[.pointer (some ⟨B, 0, none⟩), .int .u64 off, .int .i64 1] w fun e w' => e = .returned (.tuple #[.int .u64 (s.rv off), .bool true]) ∧ Ua w' B (s.rd off) K ∧ Touch K w w' := by
  have h' := h
  obtain ⟨o, q, hv⟩ := h'
  have c5 : w.cell? ⟨B, 5, none⟩ = some (.int .u8 s.d0) := hv.box.read 5
  have c6 : w.cell? ⟨B, 6, none⟩ = some (.int .u8 s.d1) := hv.box.read 6
  have b5 := hv.ok.d0
  have b6 := hv.ok.d1
  have hlt := rv_lt hv.ok off
  have HR := Lib.hid fun hl => read_any h off h8 hl
  have HD := Lib.hid (dlab_any hv)
  have HU := Lib.hid (And.intro h (Touch.refl K w))
  clear h hv
  by_cases hl : 128 ≤ s.lcr
  · have hd : decide (128 ≤ s.lcr) = true := decide_eq_true hl
    rw [hd] at HD
    have HV0 : Hid (off = 0 → s.rv off = s.d0 ∧ s.rd off = s) := Lib.hid fun e => by subst e; exact ⟨if_pos hl, if_pos hl⟩
    have HV1 : Hid (off = 1 → s.rv off = s.d1) := Lib.hid fun e => by subst e; exact if_pos hl
    clear hd hl
    by_cases h2 : off < 2
    · obtain rfl | rfl : off = 0 ∨ off = 1 := by omega
      · clear h8 hlt
        go_enter Try.func21, Try.ntmps21
        go_wp2_with (go_at_call 32; refine HD.out.mono ?_; rintro e w' ⟨rfl, rfl⟩)
        go_ret2
        obtain ⟨e1, e2⟩ := HV0.out (by decide)
        rw [e2]
        exact ⟨by rw [e1]; rfl, HU.out⟩
      · clear h8 hlt
        go_enter Try.func21, Try.ntmps21
        go_wp2_with (go_at_call 32; refine HD.out.mono ?_; rintro e w' ⟨rfl, rfl⟩)
        go_ret2
        exact ⟨by rw [HV1.out (by decide)]; rfl, HU.out⟩
    · have hr := HR.out fun h => absurd h h2
      have HR2 := Lib.hid hr
      clear hr HR
      generalize s.rv off = n at hlt HR2 HV0 HV1 ⊢
      have n0 : ¬ off = 0 := by omega
      have n1 : ¬ off = 1 := by omega
      go_enter Try.func21, Try.ntmps21
      go_wp2_with (go_at_call 34; refine HR2.out.mono ?_; rintro e w' ⟨rfl, hz⟩)
      go_ret2
      exact ⟨rfl, hz⟩
  · have hd : decide (128 ≤ s.lcr) = false := decide_eq_false hl
    rw [hd] at HD
    have hr := HR.out fun _ => hl
    have HR2 := Lib.hid hr
    clear hr HR hd hl
    generalize s.rv off = n at hlt HR2 ⊢
    by_cases h2 : off < 2
    · obtain rfl | rfl : off = 0 ∨ off = 1 := by omega
      all_goals
        clear h8 h2
        go_enter Try.func21, Try.ntmps21
        go_wp2_with (first | (go_at_call 32; refine HD.out.mono ?_; rintro e w' ⟨rfl, rfl⟩) | (go_at_call 34; refine HR2.out.mono ?_; rintro e w' ⟨rfl, hz⟩))
        go_ret2
        exact ⟨rfl, hz⟩
    · have n0 : ¬ off = 0 := by omega
      have n1 : ¬ off = 1 := by omega
      go_enter Try.func21, Try.ntmps21
      go_wp2_with (go_at_call 34; refine HR2.out.mono ?_; rintro e w' ⟨rfl, hz⟩)
      go_ret2
      exact ⟨rfl, hz⟩
theorem Read_any (h : Ua w B s K) (off : Nat) (v : Int) : Calls Try.prog 21 #[.pointer (some ⟨B, 0, none⟩), .int .u64 off, .int .i64 v] w fun e w' => e = .returned (.tuple #[.int .u64 (s.Rv off v), .bool (okR off v)]) ∧ Ua w' B (s.Rd off v) K ∧ Touch K w w' := by
  by_cases hg : off < 8 ∧ v = 1
  · rw [US.Rv, if_pos hg, okR, decide_eq_true hg, US.Rd, if_pos hg]
    obtain ⟨h8, rfl⟩ := hg
    exact Read_good h off h8
  · exact Read_bad h off v hg
end
end Go.Proofs.Ytagcmajiomhbdaa
