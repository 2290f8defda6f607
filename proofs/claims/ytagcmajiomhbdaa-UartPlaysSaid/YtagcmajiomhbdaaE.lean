/- A line: Write, Input, Take, Dump. -/
import Derived.Test.YtagcmajiomhbdaaD
import Derived.Laws.Rows
import Derived.Deep.RegionWith
import Derived.Deep.QuietTactic
import Derived.BigQuiet
import Derived.RegionTactic
import Derived.BigRegion
set_option linter.unusedVariables false
set_option linter.unusedSimpArgs false
namespace Go.Proofs.Ytagcmajiomhbdaa
open Go.RowKit
section
variable {w w' w1 : World} {B : Nat} {s s' : US} {K L : Nat → Prop} {o q : Value}
def US.Wt (s : US) (off : Nat) (v : Int) (x : Nat) : US := if off < 8 ∧ v = 1 then s.wr off (UInt8.ofNat (x % 256)) else s
theorem write_any (h : Ua w B s K) (off : Nat) (h8 : off < 8) (c : UInt8) (hl : off < 2 → ¬ 128 ≤ s.lcr) (hn : s.out.length ≤ 1000000) : Calls Try.prog 33 #[.pointer (some ⟨B, 0, none⟩), .int .u64 off, .int .u8 c.toNat] w fun e w' => e = .returned (.tuple #[]) ∧ Wr K B (s.wr off c) w w' := by
  obtain ⟨o, q, h⟩ := h
  by_cases h0 : off = 0
  · subst h0; exact write0 h c (hl (by decide)) hn
  · by_cases h1 : off = 1
    · subst h1; exact write1 h c (hl (by decide))
    · by_cases h2 : off = 2
      · subst h2; exact write2 h c
      · exact write3 h c off (by omega)
theorem Write_bad (h : Ua w B s K) (off : Nat) (v : Int) (x : Nat) (hb : ¬ (off < 8 ∧ v = 1)) : Calls Try.prog 18 #[.pointer (some ⟨B, 0, none⟩), .int .u64 off, .int .i64 v, .int .u64 x] w fun e w' => e = .returned (.bool (okR off v)) ∧ Wr K B (s.Wt off v x) w w' := by
  rw [okR, decide_eq_false hb, US.Wt, if_neg hb]
  have HU := Lib.hid (Wr.same h)
  clear h
  by_cases h8 : off < 8
  · have hv : ¬ v = 1 := by omega
    have hvb : (v == 1) = false := beq_eq_false_iff_ne.2 hv
    have hvc : (v != 1) = true := bne_iff_ne.2 hv
    clear hb
    go_enter Try.func18, Try.ntmps18
    go_wp2
    go_ret
    exact ⟨rfl, HU.out⟩
  · clear hb
    go_enter Try.func18, Try.ntmps18
    go_wp2
    go_ret
    exact ⟨rfl, HU.out⟩
set_option maxHeartbeats 1000000 in
theorem Write_good (h : Ua w B s K) (off : Nat) (h8 : off < 8) (x : Nat) (c : UInt8) (hx : ((x : Int) % 256) = (c.toNat : Int)) (hn : s.out.length ≤ 1000000) : Calls Try.prog 18 #[.pointer (some ⟨B, 0, none⟩), .int .u64 off, .int .i64 1, .int .u64 x] w fun e w' => e = .returned (.bool true) ∧ Wr K B (s.wr off c) w w' := by
  have h' := h
  obtain ⟨o, q, hv⟩ := h'
  have c5 : w.cell? ⟨B, 5, none⟩ = some (.int .u8 s.d0) := hv.box.read 5
  have c6 : w.cell? ⟨B, 6, none⟩ = some (.int .u8 s.d1) := hv.box.read 6
  have f5 := hv.box.warm 5
  have f6 := hv.box.warm 6
  have hc := UInt8.toNat_lt c
  have HR := Lib.hid fun hl => write_any h off h8 c hl hn
  have HD := Lib.hid (dlab_any hv)
  have H5 : Hid (Wr K B { s with d0 := c.toNat } w (w.setCell ⟨B, 5, none⟩ (.int .u8 c.toNat))) :=
    Wr.of (hv.put 5 _ { s with d0 := c.toNat } (by kernel_rfl) rfl rfl ⟨hv.ok.ier, hv.ok.lcr, hv.ok.mcr, hv.ok.scr, hc, hv.ok.d1, hv.ok.q⟩) hv.kB
  have H6 : Hid (Wr K B { s with d1 := c.toNat } w (w.setCell ⟨B, 6, none⟩ (.int .u8 c.toNat))) :=
    Wr.of (hv.put 6 _ { s with d1 := c.toNat } (by kernel_rfl) rfl rfl ⟨hv.ok.ier, hv.ok.lcr, hv.ok.mcr, hv.ok.scr, hv.ok.d0, hc, hv.ok.q⟩) hv.kB
  clear h hv hc
  by_cases hl : 128 ≤ s.lcr
  · have hd : decide (128 ≤ s.lcr) = true := decide_eq_true hl
    rw [hd] at HD
    have e0 : s.wr 0 c = { s with d0 := c.toNat } := if_pos hl
    have e1 : s.wr 1 c = { s with d1 := c.toNat } := if_pos hl
    have E0 := Lib.hid e0
    have E1 := Lib.hid e1
    clear hd hl e0 e1
    by_cases h2 : off < 2
    · obtain rfl | rfl : off = 0 ∨ off = 1 := by omega
      · clear h8 HR
        go_enter Try.func18, Try.ntmps18
        go_wp2_with (go_at_call 32; refine HD.out.mono ?_; rintro e w' ⟨rfl, rfl⟩)
        go_ret
        rw [E0.out]
        exact ⟨rfl, H5.out⟩
      · clear h8 HR
        go_enter Try.func18, Try.ntmps18
        go_wp2_with (go_at_call 32; refine HD.out.mono ?_; rintro e w' ⟨rfl, rfl⟩)
        go_ret
        rw [E1.out]
        exact ⟨rfl, H6.out⟩
    · have hr := HR.out fun h => absurd h h2
      have HR2 := Lib.hid hr
      clear hr HR
      have n0 : ¬ off = 0 := by omega
      have n1 : ¬ off = 1 := by omega
      go_enter Try.func18, Try.ntmps18
      go_wp2_with (go_at_call 33; refine HR2.out.mono ?_; rintro e w' ⟨rfl, hz⟩)
      go_ret
      exact ⟨rfl, hz⟩
  · have hd : decide (128 ≤ s.lcr) = false := decide_eq_false hl
    rw [hd] at HD
    have hr := HR.out fun _ => hl
    have HR2 := Lib.hid hr
    clear hr HR hd hl
    by_cases h2 : off < 2
    · obtain rfl | rfl : off = 0 ∨ off = 1 := by omega
      all_goals
        clear h8 h2
        go_enter Try.func18, Try.ntmps18
        go_wp2_with (first | (go_at_call 32; refine HD.out.mono ?_; rintro e w' ⟨rfl, rfl⟩) | (go_at_call 33; refine HR2.out.mono ?_; rintro e w' ⟨rfl, hz⟩))
        go_ret
        exact ⟨rfl, hz⟩
    · have n0 : ¬ off = 0 := by omega
      have n1 : ¬ off = 1 := by omega
      go_enter Try.func18, Try.ntmps18
      go_wp2_with (go_at_call 33; refine HR2.out.mono ?_; rintro e w' ⟨rfl, hz⟩)
      go_ret
      exact ⟨rfl, hz⟩
theorem Write_any (h : Ua w B s K) (off : Nat) (v : Int) (x : Nat) (hn : s.out.length ≤ 1000000) : Calls Try.prog 18 #[.pointer (some ⟨B, 0, none⟩), .int .u64 off, .int .i64 v, .int .u64 x] w fun e w' => e = .returned (.bool (okR off v)) ∧ Wr K B (s.Wt off v x) w w' := by
  by_cases hg : off < 8 ∧ v = 1
  · rw [okR, decide_eq_true hg, US.Wt, if_pos hg]
    obtain ⟨h8, rfl⟩ := hg
    exact Write_good h off h8 x (UInt8.ofNat (x % 256)) (by rw [UInt8.toNat_ofNat']; omega) hn
  · exact Write_bad h off v x hg
def US.inp (s : US) (c : UInt8) : US := if s.q.length = 16 then { s with ov := true } else { s with q := s.q ++ [c] }
set_option maxHeartbeats 1000000 in
theorem input_any (h : Ua w B s K) (c : UInt8) : Calls Try.prog 19 #[.pointer (some ⟨B, 0, none⟩), .int .u8 c.toNat] w fun e w' => e = .returned (.bool (decide (s.q.length ≠ 16))) ∧ Wr K B (s.inp c) w w' := by
  obtain ⟨o, q, h⟩ := h
  obtain ⟨i0, hi, iz0, iz1, iz2⟩ := info_parts info5
  obtain ⟨a, cap, rfl, _⟩ := h.lq.shape
  rw [vals_len] at h
  have c7 : w.cell? ⟨B, 7, none⟩ = some (.slice a s.q.length cap) := h.box.read 7
  have c9 : w.cell? ⟨B, 9, none⟩ = some (.bool s.ov) := h.box.read 9
  have f9 := h.box.warm 9
  by_cases h16 : s.q.length = 16
  · have e1 : s.inp c = { s with ov := true } := if_pos h16
    rw [e1]
    have H1 : Hid (Wr K B { s with ov := true } w (w.setCell ⟨B, 9, none⟩ (.bool true))) :=
      Wr.of (h.put 9 _ { s with ov := true } (by kernel_rfl) rfl rfl ⟨h.ok.ier, h.ok.lcr, h.ok.mcr, h.ok.scr, h.ok.d0, h.ok.d1, h.ok.q⟩) h.kB
    rw [h16] at c7 ⊢
    clear h e1 h16
    go_enter Try.func19, Try.ntmps19
    go_wp2
    go_ret
    exact ⟨rfl, H1.out⟩
  · have e1 : s.inp c = { s with q := s.q ++ [c] } := if_neg h16
    rw [e1, decide_eq_true h16]
    have hlt : s.q.length < 16 := by have := h.ok.q; omega
    have hb : ((s.q.length : Int) == 16) = false := beq_eq_false_iff_ne.2 (by omega)
    have hvl := vals_len s.q
    have HU := Lib.hid h
    have hlo := h.lq
    clear h e1 h16
    go_enter Try.func19, Try.ntmps19
    go_wp2_with (at_builtin; refine wpList_append_lane rfl _ _ 41 rfl 5 i0 (.int .u8 0) 1 Try.underlying41 hi iz0 iz1 iz2 (by decide) (.slice a s.q.length cap) (.slice (some ⟨w.heap.size, 0, none⟩) 1 1) (vals s.q) [.int .u8 c.toNat] rfl rfl (hlo.more _) (Lane.lit _ _ #[.int .u8 c.toNat] (by simp [maxLen])) ?c1 ?c2 ?c3 ?_)
    case c1 => intro u hu; simp at hu; subst hu; rfl
    case c2 => simp only [List.length_singleton, maxLen]; omega
    case c3 => simp only [List.length_singleton]; omega
    · intro v' w2 hl2 hg2 hb2
      obtain ⟨a2, cap2, rfl, _⟩ := hl2.shape
      have H2 := Lib.hid (HU.out.laid c hlt hl2 hg2 hb2)
      have hfo := HU.out.lq.far HU.out.box (by decide)
      have hbx : Box w2 B 49 (uc s o (.slice a s.q.length cap)) := (hg2.block B (HU.out.more _).box.inHeap (fun e => hfo e.symm)).trans (HU.out.more _).box
      have d0 : w2.cell? ⟨B, 7, none⟩ = some (.slice a s.q.length cap) := hbx.read 7
      have f0 := hbx.warm 7
      simp only [List.length_append, vals_len, List.length_singleton] at H2 ⊢
      clear hl2 hg2 hb2 hbx hfo hlo hvl c7
      go_wp2
      go_ret
      exact ⟨rfl, H2.out⟩
/-! What was sent -/
theorem strOf (acc : List UInt8) : strOfNums (acc.map fun c => (c.toNat : Int)) = str acc := by
  simp only [strOfNums, str, List.map_map]
  congr 2
  have : ((fun n : Int => UInt8.ofNat n.toNat) ∘ fun c : UInt8 => (c.toNat : Int)) = id := by
    funext c; simp
  rw [this, List.map_id]
theorem conv_lane {v : Value} {acc : List UInt8} (h : Lane w 5 v (vals acc)) : (convert 41 9 v).run Try.prog w = .ok (.string (str acc)) w := by
  rcases h with ⟨rfl, h0⟩ | ⟨g, off, cap, cur, rfl, hb, _, _, _, hcell⟩
  · have : acc = [] := by simpa [vals] using h0
    subst this
    exact run_convert_bytes_nil (P := Try.prog) w 41 5 Try.underlying41 Try.underlying5 0 0 9 Try.underlying9
  · rw [vals_len, run_convert_bytes_arg (P := Try.prog) w 41 5 Try.underlying41 Try.underlying5 g off acc.length cap (acc.map fun c => (c.toNat : Int)) (by simp) (fun i hi => by
      have := (hb.read (off + i)).trans (hcell i (.int .u8 (acc[i].toNat)) (by simp [vals, List.getElem?_map, List.getElem?_eq_getElem hi]))
      rw [this]
      simp [List.getD, List.getElem?_map, List.getElem?_eq_getElem hi]) 9 Try.underlying9, strOf]
theorem Uv.taken (h : Uv w B s K o q) : Wr K B { s with out := [] } w (w.setCell ⟨B, 0, none⟩ (.slice none 0 0)) :=
  ⟨⟨.slice none 0 0, q, ⟨box_eq (h.box.put 0 _) (by kernel_rfl), Lane.nil _ _, h.lq.putFar h.box (by decide) _, .inl h.kB, (fun k e => by cases e), (fun k e => .inl (h.kq k e)), (fun k e => by cases e), ⟨h.ok.ier, h.ok.lcr, h.ok.mcr, h.ok.scr, h.ok.d0, h.ok.d1, h.ok.q⟩⟩⟩, (Touch.refl K w).put (.inl h.kB) _⟩
theorem take_any (h : Ua w B s K) : Calls Try.prog 31 #[.pointer (some ⟨B, 0, none⟩)] w fun e w' => e = .returned (.string (str s.out)) ∧ Wr K B { s with out := [] } w w' := by
  obtain ⟨o, q, h⟩ := h
  have HW := Lib.hid h.taken
  obtain ⟨a, cap, rfl, _⟩ := h.lo.shape
  have r1 := conv_lane h.lo
  rw [vals_len] at h r1
  have c0 : w.cell? ⟨B, 0, none⟩ = some (.slice a s.out.length cap) := h.box.read 0
  have f0 := h.box.warm 0
  clear h
  go_enter Try.func31, Try.ntmps31
  go_wp2
  go_ret
  exact ⟨rfl, HW.out⟩
theorem Take_any (h : Ua w B s K) : Calls Try.prog 16 #[.pointer (some ⟨B, 0, none⟩)] w fun e w' => e = .returned (.string (str s.out)) ∧ Wr K B { s with out := [] } w w' := by
  have HT := Lib.hid (take_any h)
  go_enter Try.func16, Try.ntmps16
  go_wp2_with (go_at_call 31; refine HT.out.mono ?_; rintro e w' ⟨rfl, hz⟩)
  go_ret
  exact ⟨rfl, hz⟩
end
end Go.Proofs.Ytagcmajiomhbdaa
