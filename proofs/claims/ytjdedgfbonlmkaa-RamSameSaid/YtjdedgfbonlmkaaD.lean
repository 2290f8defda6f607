/- A memory: what New, Bytes, Put, Clear, Read answer. -/
import Derived.Test.YtjdedgfbonlmkaaC
set_option linter.unusedVariables false
set_option linter.unusedSimpArgs false
namespace Go.Proofs.Ytjdedgfbonlmkaa
open Go.RowKit
section
variable {w w' : World} {B g N at' wd : Nat} {l : List UInt8}
theorem Rm.row (h : Rm w B g N at' wd l) (l' : List UInt8) (hl : l'.length = l.length) : Rm (w.setRow g (vals l').toArray) B g N at' wd l' :=
  ⟨h.box.rowFar h.ne.symm _, h.mem.row _, by rw [hl, h.len], h.big, h.top, h.at1⟩
theorem Touch.row {K : Nat → Prop} (h : Touch K w w') {g : Nat} (hg : K g) (cs : Array Value) : Touch K w (w'.setRow g cs) :=
  ⟨h.os, h.tape, h.output, by simpa [World.setRow] using h.size, fun i hi hn => (setRow_other w' g i cs (fun e => hn (e ▸ hg))).trans (h.block i hi hn)⟩
theorem clear_any (h : Rm w B g N at' wd l) : Calls Try.prog 15 #[.pointer (some ⟨B, 0, none⟩)] w fun e w' => e = .returned (.tuple #[]) ∧ Rm w' B g N 0 0 (List.replicate N 0) ∧ Touch (Own2 B g) w w' := by
  obtain ⟨i0, hi, iz0, iz1, iz2⟩ := info_parts info5
  have c0 : w.cell? ⟨B, 0, none⟩ = some (.slice (some ⟨g, 0, none⟩) N N) := h.box.read 0
  have hb : 0 < N := by have := h.big; omega
  have HM := Lib.hid h
  have hcl := run_clear_row (P := Try.prog) (w := w) 45 0 Try.underlying45 i0 hi iz0 iz1 g N hb l 5 h.mem h.len
  have H2 := Lib.hid (h.row (List.replicate N 0) (by simp [h.len]))
  go_enter Try.func15, Try.ntmps15
  go_wp2_with (first | (go_at_call 30; refine (made_any h).mono ?_; rintro e w' ⟨rfl, rfl⟩) | (go_at_call 28; refine (drop_any H2.out).mono ?_; rintro e w9 ⟨rfl, hr, ht⟩))
  go_end0
  exact ⟨rfl, hr, ((Touch.refl (Own2 B g) w).row (.inr rfl) _).trans (ht.mono fun k hk => .inl hk)⟩
def putB (N a n : Nat) : Bool := decide (a + n ≤ N)
def putE (b : Bool) : Int := if b then 0 else 6
set_option maxHeartbeats 2000000 in
theorem put_good (h : Rm w B g N at' wd l) (a : Nat) (s : ByteArray) (ha : a + s.size ≤ N) : Calls Try.prog 23 #[.pointer (some ⟨B, 0, none⟩), .int .u64 a, .string s] w fun e w' => e = .returned (.int .i64 0) ∧ Rm w' B g N (gone (endB at' a s.size) at') (gone (endB at' a s.size) wd) (splice l a s.data.toList) ∧ Touch (Own2 B g) w w' := by
  obtain ⟨i0, hi, iz0, iz1, iz2⟩ := info_parts info5
  have c0 : w.cell? ⟨B, 0, none⟩ = some (.slice (some ⟨g, 0, none⟩) N N) := h.box.read 0
  have hN := h.top
  have hl := h.len
  have HM := Lib.hid h
  have hr := run_slice_mem h a (by omega)
  have HT := Lib.hid (fun wx (hx : Rm wx B g N at' wd l) => there_any hx a s.size)
  rw [decide_eq_true ha] at HT
  have hsl : s.data.toList.length = s.size := dsz s
  have H2 := Lib.hid (h.row (splice l a s.data.toList) (splice_len (by omega)))
  have HE := Lib.hid (wrote_any H2.out a s.size (by omega))
  by_cases hN2 : N = a
  · have hs0 : s.size = 0 := by omega
    have hsp : splice l a s.data.toList = splice l 0 s.data.toList := by
      have : s.data.toList = [] := List.eq_nil_of_length_eq_zero (by omega)
      rw [this]; simp [splice]
    rw [if_pos hN2] at hr
    have HSP := Lib.hid hsp
    have hNle : N ≤ a := by omega
    have hcp := run_copy_text (P := Try.prog) (w := w) 45 9 3 5 Try.underlying45 i0 hi iz1 g 0 0 0 s l 5 h.mem (by omega) (by omega)
    rw [← hsp] at hcp
    clear h hsp hs0 hN2
    go_enter Try.func23, Try.ntmps23
    go_wp2_with (first | (go_at_call 30; refine (made_any HM.out).mono ?_; rintro e w' ⟨rfl, rfl⟩) | (go_at_call 37; refine (HT.out _ HM.out).mono ?_; rintro e w' ⟨rfl, rfl⟩) | (go_at_call 46; refine HE.out.mono ?_; rintro e w9 ⟨rfl, hr9, ht9⟩))
    go_ret
    exact ⟨rfl, hr9, ((Touch.refl (Own2 B g) w).row (.inr rfl) _).trans (ht9.mono fun k hk => .inl hk)⟩
  · rw [if_neg hN2] at hr
    have hcp := run_copy_text (P := Try.prog) (w := w) 45 9 3 5 Try.underlying45 i0 hi iz1 g a (N - a) (N - a) s l 5 h.mem (by omega) (by omega)
    clear h hN2
    go_enter Try.func23, Try.ntmps23
    go_wp2_with (first | (go_at_call 30; refine (made_any HM.out).mono ?_; rintro e w' ⟨rfl, rfl⟩) | (go_at_call 37; refine (HT.out _ HM.out).mono ?_; rintro e w' ⟨rfl, rfl⟩) | (go_at_call 46; refine HE.out.mono ?_; rintro e w9 ⟨rfl, hr9, ht9⟩))
    go_ret
    exact ⟨rfl, hr9, ((Touch.refl (Own2 B g) w).row (.inr rfl) _).trans (ht9.mono fun k hk => .inl hk)⟩
theorem put_bad (h : Rm w B g N at' wd l) (a : Nat) (s : ByteArray) (hs : s.size ≤ 9223372036854775807) (ha : ¬ a + s.size ≤ N) : Calls Try.prog 23 #[.pointer (some ⟨B, 0, none⟩), .int .u64 a, .string s] w fun e w' => e = .returned (.int .i64 6) ∧ w = w' := by
  have HM := Lib.hid h
  have HT := Lib.hid (fun wx (hx : Rm wx B g N at' wd l) => there_any hx a s.size)
  rw [decide_eq_false ha] at HT
  clear h
  go_enter Try.func23, Try.ntmps23
  go_wp2_with (first | (go_at_call 30; refine (made_any HM.out).mono ?_; rintro e w' ⟨rfl, rfl⟩) | (go_at_call 37; refine (HT.out _ HM.out).mono ?_; rintro e w' ⟨rfl, rfl⟩))
  go_ret
  exact ⟨rfl, rfl⟩
theorem put_any (h : Rm w B g N at' wd l) (a : Nat) (s : ByteArray) (hs : s.size ≤ 9223372036854775807) : Calls Try.prog 23 #[.pointer (some ⟨B, 0, none⟩), .int .u64 a, .string s] w fun e w' => e = .returned (.int .i64 (putE (putB N a s.size))) ∧ Rm w' B g N (gone (putB N a s.size && endB at' a s.size) at') (gone (putB N a s.size && endB at' a s.size) wd) (if putB N a s.size = true then splice l a s.data.toList else l) ∧ Touch (Own2 B g) w w' := by
  by_cases ha : a + s.size ≤ N
  · rw [putB, decide_eq_true ha, Bool.true_and, if_pos rfl]
    exact put_good h a s ha
  · rw [putB, decide_eq_false ha, Bool.false_and, if_neg (by decide)]
    refine (put_bad h a s hs ha).mono ?_
    rintro e w' ⟨rfl, rfl⟩
    exact ⟨rfl, h, Touch.refl _ _⟩
end
end Go.Proofs.Ytjdedgfbonlmkaa
