/- A line: what reads answer. -/
import Derived.Test.YtagcmajiomhbdaaA
set_option linter.unusedVariables false
set_option linter.unusedSimpArgs false
namespace Go.Proofs.Ytagcmajiomhbdaa
open Go.RowKit
section
variable {w w' : World} {B : Nat} {s s' : US} {K L : Nat → Prop} {o q : Value}
/-! Reads -/
def US.rd (s : US) (off : Nat) : US := match off with
  | 0 => if 128 ≤ s.lcr then s else { s with q := s.q.tail }
  | 2 => { s with dn := if s.asks = 2 then false else s.dn }
  | 5 => { s with ov := false }
  | _ => s
def US.rv (s : US) (off : Nat) : Nat := match off with
  | 0 => if 128 ≤ s.lcr then s.d0 else match s.q with | [] => 0 | c :: _ => c.toNat
  | 1 => if 128 ≤ s.lcr then s.d1 else s.ier
  | 2 => s.asks + if s.en then 192 else 0
  | 3 => s.lcr
  | 4 => s.mcr
  | 5 => 96 + (if s.q = [] then 0 else 1) + if s.ov then 2 else 0
  | 7 => s.scr
  | _ => 0
theorem receive_none (h : Uv w B s K o q) (hq : s.q = []) : Calls Try.prog 38 #[.pointer (some ⟨B, 0, none⟩)] w fun e w' => e = .returned (.int .u8 0) ∧ w = w' := by
  obtain ⟨a, cap, rfl, _⟩ := h.lq.shape
  have c7 : w.cell? ⟨B, 7, none⟩ = some (.slice a (vals s.q).length cap) := h.box.read 7
  rw [vals_len, hq] at c7
  go_enter Try.func38, Try.ntmps38
  go_wp2
  go_ret
  exact ⟨rfl, rfl⟩
set_option maxHeartbeats 1000000 in
theorem receive_one (h : Uv w B s K o q) (c : UInt8) (r : List UInt8) (hq : s.q = c :: r) : Calls Try.prog 38 #[.pointer (some ⟨B, 0, none⟩)] w fun e w' => e = .returned (.int .u8 c.toNat) ∧ Ua w' B { s with q := r } K ∧ Touch K w w' := by
  rcases h.lq with ⟨_, hn⟩ | ⟨g, off, cap, cur, rfl, hb, hc1, hc2, hc3, hcell⟩
  · rw [hq] at hn; cases hn
  · obtain ⟨i0, hi, iz0, iz1, iz2⟩ := info_parts info5
    have c7 : w.cell? ⟨B, 7, none⟩ = some (.slice (some ⟨g, off, none⟩) (vals s.q).length cap) := h.box.read 7
    have f7 := h.box.warm 7
    have hlen : (vals s.q).length = r.length + 1 := by rw [hq]; simp [vals]
    have c0 : w.cell? ⟨g, off, none⟩ = some (.int .u8 c.toNat) := by
      have := (hb.read (off + 0)).trans (hcell 0 (.int .u8 c.toNat) (by rw [hq]; rfl))
      simpa using this
    have hdrop := h.lq.drop 1 (by omega)
    have hr1 : ∀ wx : World, (Instr.slice 41 (.slice (some ⟨g, off, none⟩) (r.length + 1) cap) (some (.int .i64 1)) none none).run Try.prog wx = .ok (.slice (some (if cap = 1 then (⟨g, off, none⟩ : Addr) else (⟨g, off, none⟩ : Addr).add 1)) (r.length + 1 - 1) (cap - 1)) wx := fun wx =>
      run_slice_lane (k := 1) Try.underlying41 hi iz1 (by omega) (by omega) hc3
    rw [hlen] at c7 hdrop
    rw [show (vals s.q).drop 1 = vals r by rw [hq]; rfl] at hdrop
    rw [Nat.add_sub_cancel] at hr1 hdrop
    have hAb : (if cap = 1 then (⟨g, off, none⟩ : Addr) else (⟨g, off, none⟩ : Addr).add 1).block = g := by
      split
      · rfl
      · unfold Addr.add; split <;> rfl
    generalize (if cap = 1 then (⟨g, off, none⟩ : Addr) else (⟨g, off, none⟩ : Addr).add 1) = A at hr1 hdrop hAb
    generalize cap - 1 = cap1 at hr1 hdrop
    have hvb : (Value.slice (some A) r.length cap1).ownBlock = some g := by rw [← hAb]; rfl
    have hp : (0 : Int) < (r.length : Int) + 1 := by omega
    have HU : Hid (Ua (w.setCell ⟨B, 7, none⟩ (.slice (some A) r.length cap1)) B { s with q := r } K ∧ Touch K w (w.setCell ⟨B, 7, none⟩ (.slice (some A) r.length cap1))) := by
      refine ⟨⟨o, .slice (some A) r.length cap1, ⟨box_eq (h.box.put 7 _) (by kernel_rfl), h.lo.putFar h.box (by decide) _, hdrop.putFar h.box (by decide) _, h.kB, h.ko, fun k e => h.kq k (by rw [hvb] at e; exact e), fun k e => by rw [hvb]; exact h.ne k e, ⟨h.ok.ier, h.ok.lcr, h.ok.mcr, h.ok.scr, h.ok.d0, h.ok.d1, by have := h.ok.q; rw [hq] at this; simp at this ⊢; omega⟩⟩⟩, (Touch.refl K w).put (.inl h.kB) _⟩
    clear hvb hdrop h hcell hAb
    go_enter Try.func38, Try.ntmps38
    go_wp2
    go_ret
    exact ⟨rfl, HU.out⟩
/-- What a read leaves: the line's new state, of the same blocks. -/
theorem receive_any (h : Ua w B s K) (hl : ¬ 128 ≤ s.lcr) : Calls Try.prog 38 #[.pointer (some ⟨B, 0, none⟩)] w fun e w' => e = .returned (.int .u8 (s.rv 0)) ∧ Ua w' B (s.rd 0) K ∧ Touch K w w' := by
  obtain ⟨o, q, h⟩ := h
  rcases hq : s.q with _ | ⟨c, r⟩
  · refine (receive_none h hq).mono ?_
    rintro e w' ⟨rfl, rfl⟩
    have e1 : s.rd 0 = s := by show (if 128 ≤ s.lcr then s else { s with q := s.q.tail }) = s; rw [if_neg hl, hq]; rcases s with ⟨⟩; simp_all
    rw [e1]
    exact ⟨ret_eq (by show _ = (((if 128 ≤ s.lcr then s.d0 else match s.q with | [] => 0 | c :: _ => c.toNat) : Nat) : Int); rw [if_neg hl, hq]; rfl), ⟨o, q, h⟩, Touch.refl K w⟩
  · refine (receive_one h c r hq).mono ?_
    rintro e w' ⟨rfl, hu, ht⟩
    have e1 : s.rd 0 = { s with q := r } := by show (if 128 ≤ s.lcr then s else { s with q := s.q.tail }) = _; rw [if_neg hl, hq]; rfl
    rw [e1]
    exact ⟨ret_eq (by show _ = (((if 128 ≤ s.lcr then s.d0 else match s.q with | [] => 0 | c :: _ => c.toNat) : Nat) : Int); rw [if_neg hl, hq]), hu, ht⟩
theorem asked_any (h : Uv w B s K o q) : Calls Try.prog 39 #[.pointer (some ⟨B, 0, none⟩)] w fun e w' => e = .returned (.int .u8 (s.rv 2)) ∧ Ua w' B (s.rd 2) K ∧ Touch K w w' := by
  have ha := asks_any h
  have hc := asks_cases s
  have c8 : w.cell? ⟨B, 8, none⟩ = some (.bool s.en) := h.box.read 8
  have c10 : w.cell? ⟨B, 10, none⟩ = some (.bool s.dn) := h.box.read 10
  have f10 := h.box.warm 10
  have HU : Hid (Ua (w.setCell ⟨B, 10, none⟩ (.bool false)) B { s with dn := false } K ∧ Touch K w (w.setCell ⟨B, 10, none⟩ (.bool false)) ∧ Ua w B s K ∧ Touch K w w) :=
    ⟨⟨o, q, h.put 10 _ { s with dn := false } (by kernel_rfl) rfl rfl ⟨h.ok.ier, h.ok.lcr, h.ok.mcr, h.ok.scr, h.ok.d0, h.ok.d1, h.ok.q⟩⟩, (Touch.refl K w).put (.inl h.kB) _, ⟨o, q, h⟩, Touch.refl K w⟩
  clear h
  have hrd : s.rd 2 = if s.asks = 2 then { s with dn := false } else s := by
    show { s with dn := if s.asks = 2 then false else s.dn } = _
    split <;> rfl
  have hrv : s.rv 2 = s.asks + if s.en then 192 else 0 := rfl
  generalize hn : s.asks = n at ha hc hrd hrv
  have HA := Lib.hid ha
  have HD := Lib.hid (And.intro hrd hrv)
  clear ha hrd hrv hn
  generalize hen : s.en = en at c8
  have HE := Lib.hid hen
  clear hen
  cases en <;> rcases hc with rfl | rfl | rfl | rfl
  all_goals
    go_enter Try.func39, Try.ntmps39
    go_wp2_with (go_at_call 27; refine HA.out.mono ?_; rintro e w' ⟨rfl, rfl⟩)
    go_ret
    refine ⟨ret_eq (by rw [HD.out.2, HE.out]; rfl), ?_⟩
    rw [HD.out.1]
    first | exact ⟨HU.out.1, HU.out.2.1⟩ | exact ⟨HU.out.2.2.1, HU.out.2.2.2⟩
theorem status_any (h : Uv w B s K o q) : Calls Try.prog 40 #[.pointer (some ⟨B, 0, none⟩)] w fun e w' => e = .returned (.int .u8 (s.rv 5)) ∧ Ua w' B (s.rd 5) K ∧ Touch K w w' := by
  obtain ⟨a, cap, rfl, _⟩ := h.lq.shape
  have c7 : w.cell? ⟨B, 7, none⟩ = some (.slice a (vals s.q).length cap) := h.box.read 7
  rw [vals_len] at c7
  have c9 : w.cell? ⟨B, 9, none⟩ = some (.bool s.ov) := h.box.read 9
  have f9 := h.box.warm 9
  have HU : Hid (Ua (w.setCell ⟨B, 9, none⟩ (.bool false)) B { s with ov := false } K ∧ Touch K w (w.setCell ⟨B, 9, none⟩ (.bool false))) :=
    ⟨⟨o, _, h.put 9 _ { s with ov := false } (by kernel_rfl) rfl rfl ⟨h.ok.ier, h.ok.lcr, h.ok.mcr, h.ok.scr, h.ok.d0, h.ok.d1, h.ok.q⟩⟩, (Touch.refl K w).put (.inl h.kB) _⟩
  clear h
  have hrd : s.rd 5 = { s with ov := false } := rfl
  have hrv : s.rv 5 = 96 + (if s.q = [] then 0 else 1) + if s.ov then 2 else 0 := rfl
  have HD := Lib.hid hrd
  have HV := Lib.hid hrv
  clear hrd hrv
  generalize hov : s.ov = ov at c9
  have HO := Lib.hid hov
  clear hov
  generalize hq : s.q = ql at c7
  have HQ := Lib.hid hq
  clear hq
  cases ov <;> rcases ql with _ | ⟨c, r⟩
  all_goals
    first | (have hp : (0 : Int) < (r.length : Int) + 1 := by omega) | skip
    go_enter Try.func40, Try.ntmps40
    go_wp2
    go_ret
    refine ⟨ret_eq (by rw [HV.out, HO.out, HQ.out]; rfl), ?_⟩
    rw [HD.out]
    exact HU.out
end
end Go.Proofs.Ytagcmajiomhbdaa
