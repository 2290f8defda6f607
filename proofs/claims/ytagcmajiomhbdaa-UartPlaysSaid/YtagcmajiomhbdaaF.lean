/- A line: Dump. -/
import Derived.Test.YtagcmajiomhbdaaE
import Derived.Test.YtagcmajiomhbdaaQt
set_option linter.unusedVariables false
set_option linter.unusedSimpArgs false
namespace Go.Proofs.Ytagcmajiomhbdaa
open Go.RowKit
def oneN (b : Bool) : Nat := if b then 1 else 0
theorem one_any (b : Bool) (w : World) : Calls Try.prog 29 #[.bool b] w fun e w' => e = .returned (.int .u8 (oneN b)) ∧ w' = w := by
  cases b
  all_goals
    go_enter Try.func29, Try.ntmps29
    go_wp2
    go_ret
    exact ⟨rfl, rfl⟩
def US.regs (s : US) : List UInt8 := [UInt8.ofNat s.ier, UInt8.ofNat (oneN s.en), UInt8.ofNat s.lcr, UInt8.ofNat s.mcr, UInt8.ofNat s.scr, UInt8.ofNat s.d0, UInt8.ofNat s.d1, UInt8.ofNat (oneN s.ov), UInt8.ofNat (oneN s.dn)]
def regsV (s : US) : Array Value := #[.int .u8 s.ier, .int .u8 (oneN s.en), .int .u8 s.lcr, .int .u8 s.mcr, .int .u8 s.scr, .int .u8 s.d0, .int .u8 s.d1, .int .u8 (oneN s.ov), .int .u8 (oneN s.dn)]
theorem ofN {n : Nat} (h : n < 256) : (UInt8.ofNat n).toNat = n := by rw [UInt8.toNat_ofNat']; omega
theorem oneN_lt (b : Bool) : oneN b < 256 := by cases b <;> decide
theorem vals_regs {s : US} (h : s.ok) : vals s.regs = (regsV s).toList := by
  have h1 := h.ier
  simp only [vals, US.regs, regsV, List.map_cons, List.map_nil, ofN h.lcr, ofN h.mcr, ofN h.scr, ofN h.d0, ofN h.d1, ofN (oneN_lt s.en), ofN (oneN_lt s.ov), ofN (oneN_lt s.dn), ofN (show s.ier < 256 by omega)]
section
variable {w w' w1 : World} {B : Nat} {s s' : US} {K L : Nat → Prop} {o q : Value}
set_option maxHeartbeats 4000000 in
theorem dump_any (h : Ua w B s K) : Calls Try.prog 14 #[.pointer (some ⟨B, 0, none⟩)] w fun e w' => e = .returned (.string (str (s.regs ++ s.q))) ∧ Below w.heap.size w w' := by
  obtain ⟨o, q, h⟩ := h
  obtain ⟨i0, hi, iz0, iz1, iz2⟩ := info_parts info5
  obtain ⟨a, cap, rfl, _⟩ := h.lq.shape
  rw [vals_len] at h
  have c1 : w.cell? ⟨B, 1, none⟩ = some (.int .u8 s.ier) := h.box.read 1
  have c2 : w.cell? ⟨B, 2, none⟩ = some (.int .u8 s.lcr) := h.box.read 2
  have c3 : w.cell? ⟨B, 3, none⟩ = some (.int .u8 s.mcr) := h.box.read 3
  have c4 : w.cell? ⟨B, 4, none⟩ = some (.int .u8 s.scr) := h.box.read 4
  have c5 : w.cell? ⟨B, 5, none⟩ = some (.int .u8 s.d0) := h.box.read 5
  have c6 : w.cell? ⟨B, 6, none⟩ = some (.int .u8 s.d1) := h.box.read 6
  have c7 : w.cell? ⟨B, 7, none⟩ = some (.slice a s.q.length cap) := h.box.read 7
  have c8 : w.cell? ⟨B, 8, none⟩ = some (.bool s.en) := h.box.read 8
  have c9 : w.cell? ⟨B, 9, none⟩ = some (.bool s.ov) := h.box.read 9
  have c10 : w.cell? ⟨B, 10, none⟩ = some (.bool s.dn) := h.box.read 10
  have HU := Lib.hid h
  clear h
  go_enter Try.func14, Try.ntmps14
  go_wp2
  refine wp_region_quiet_at 41 (by kernel_rfl) (by kernel_rfl) (by kernel_rfl) (by kernel_rfl) ?_
  simp only [List.take_succ_cons, List.take_zero, List.drop_succ_cons, List.drop_zero]
  repeat (go_big_quiet_step ((go_at_call 29; exact Calls.quiet_of_same (one_any _ _))))
  refine wpQuiet_nil ?_
  intro w9 hw9
  obtain ⟨nq, hw9⟩ := hw9
  subst hw9
  have HU2 := Lib.hid (HU.out.drawn nq)
  have bel2 := Lib.hid (below_drewN (Below.refl w.heap.size w) nq)
  clear c1 c2 c3 c4 c5 c6 c7 c8 c9 c10
  generalize w.drewN nq = w2 at HU2 bel2 ⊢
  have c7 : ∀ o, (w2.alloc o).cell? ⟨B, 7, none⟩ = some (.slice a s.q.length cap) := fun o => (HU2.out.more o).box.read 7
  have hlr : Lane (w2.alloc (.cells (regsV s) 5)) 5 (.slice (some ⟨w2.heap.size, 0, none⟩) 9 9) (vals s.regs) := by
    rw [vals_regs HU.out.ok]; exact Lane.lit w2 5 (regsV s) (by simp [regsV, maxLen])
  have hq := HU2.out.lq.more (.cells (regsV s) 5)
  have hql := HU2.out.ok.q
  have hrl : (vals s.regs).length = 9 := by rw [vals_len]; rfl
  have hqv := vals_len s.q
  have HQ := Lib.hid (And.intro hlr hq)
  clear hlr hq
  go_wp2_with (at_builtin; go_loud (refine wpList_append_lane rfl _ _ 41 rfl 5 i0 (.int .u8 0) 1 Try.underlying41 hi iz0 iz1 iz2 (by decide) (.slice (some ⟨w2.heap.size, 0, none⟩) 9 9) (.slice a s.q.length cap) (vals s.regs) (vals s.q) rfl rfl HQ.out.1 HQ.out.2 ?c1 ?c2 ?c3 ?_))
  case c1 => intro u hu; simp [vals] at hu; obtain ⟨c, _, rfl⟩ := hu; rfl
  case c2 => unfold maxLen; omega
  case c3 => omega
  · intro v' w3 hl3 hg3 hb3
    rw [show vals s.regs ++ vals s.q = vals (s.regs ++ s.q) by simp [vals]] at hl3
    have hconv := conv_lane hl3
    have bel3 := Lib.hid ((bel2.out.alloc bel2.out.size (.cells (regsV s) 5)).grown hg3 (by have := bel2.out.size; simp; omega) (fun k e => by cases e; exact bel2.out.size))
    obtain ⟨a3, cap3, rfl, _⟩ := hl3.shape
    clear hl3 hg3 hb3
    go_wp2
    go_ret
    exact ⟨rfl, bel3.out⟩
end
end Go.Proofs.Ytagcmajiomhbdaa
