/- What does does. -/
import Derived.Test.YtagcmajiomhbdaaG
import Derived.Test.YtagcmajiomhbdaaF
set_option linter.unusedVariables false
set_option linter.unusedSimpArgs false
namespace Go.Proofs.Ytagcmajiomhbdaa
open Go.RowKit
theorem Wr.ofRead2 {K : Nat → Prop} {B : Nat} {s' : US} {w w' : World} (hu : Ua w' B s' K) (ht : Touch K w w') : Wr K B s' w w' := ⟨hu.mono fun b hb => .inl hb, ht⟩
theorem Wr.alloc {K : Nat → Prop} {B : Nat} {s' : US} {w w' : World} {o : Obj} (h : Wr K B s' (w.alloc o) w') : Wr K B s' w w' :=
  ⟨h.1.mono fun b hb => by
    rcases hb with hb | hb
    · exact .inl hb
    · exact .inr ⟨by have := hb.1; simp at this; omega, hb.2⟩, ((Touch.refl K w).more o).trans (h.2.mono fun k hk => .inl hk)⟩
def US.deed (s : US) (f : Deed) : US :=
  if f.k % 9 < 3 then s.Rd f.off f.wd else if f.k % 9 < 6 then s.Wt f.off f.wd f.v else if f.k % 9 < 8 then s.inp (UInt8.ofNat (f.v % 256)) else { s with out := [] }
theorem rd_out (s : US) (off : Nat) : (s.rd off).out = s.out := by
  unfold US.rd
  split
  · split <;> rfl
  all_goals rfl
theorem wr_out (s : US) (off : Nat) (c : UInt8) : (s.wr off c).out.length ≤ s.out.length + 1 := by
  unfold US.wr
  split
  · split
    · simp
    · simp
  · split <;> simp
  all_goals simp
theorem deed_out (s : US) (f : Deed) : (s.deed f).out.length ≤ s.out.length + 1 := by
  unfold US.deed
  split
  · unfold US.Rd
    split
    · rw [rd_out]; omega
    · omega
  · split
    · unfold US.Wt
      split
      · exact wr_out _ _ _
      · omega
    · split
      · unfold US.inp
        split <;> simp
      · simp
set_option maxHeartbeats 1000000 in
theorem does_any {w : World} {B : Nat} {s : US} {K : Nat → Prop} (h : Ua w B s K) (f : Deed) (hf : f.k < 256) (hn : s.out.length ≤ 1000000) : Calls Try.prog 23 #[.pointer (some ⟨B, 0, none⟩), .agg #[.int .u8 f.k, .int .u64 f.off, .int .u64 f.v, .int .i64 f.wd]] w fun e w' => e = .returned (.tuple #[]) ∧ Wr K B (s.deed f) w w' := by
  obtain ⟨what, of, x, wd⟩ := f
  have hm := h.more (.cells #[.int .u8 what, .int .u64 of, .int .u64 x, .int .i64 wd] 32)
  have HR := Lib.hid (Read_any hm of wd)
  have HW := Lib.hid (Write_any hm of wd x hn)
  have HT := Lib.hid (Take_any hm)
  obtain ⟨c, hc0, hx⟩ : ∃ c : UInt8, c = UInt8.ofNat (x % 256) ∧ ((x : Int) % 256) = (c.toNat : Int) := ⟨UInt8.ofNat (x % 256), rfl, by rw [UInt8.toNat_ofNat']; omega⟩
  have HI := Lib.hid (input_any hm c)
  have hr : (what : Int) % 9 = ((what % 9 : Nat) : Int) := by omega
  have hr9 : what % 9 < 9 := Nat.mod_lt _ (by decide)
  have hd : s.deed ⟨what, of, x, wd⟩ = if what % 9 < 3 then s.Rd of wd else if what % 9 < 6 then s.Wt of wd x else if what % 9 < 8 then s.inp c else { s with out := [] } := by rw [hc0]; rfl
  generalize what % 9 = r at hr hr9 hd
  have HD := Lib.hid hd
  clear hd hm h hc0
  obtain rfl | rfl | rfl | rfl | rfl | rfl | rfl | rfl | rfl : r = 0 ∨ r = 1 ∨ r = 2 ∨ r = 3 ∨ r = 4 ∨ r = 5 ∨ r = 6 ∨ r = 7 ∨ r = 8 := by omega
  all_goals
    go_enter Try.func23, Try.ntmps23
    go_wp2_with (first | (go_at_call 21; refine HR.out.mono ?_; rintro e w2 ⟨rfl, hu, ht⟩; have HZ := Lib.hid (Wr.ofRead2 hu ht).alloc; clear hu ht) | (go_at_call 18; refine HW.out.mono ?_; rintro e w2 ⟨rfl, hz⟩; have HZ := Lib.hid hz.alloc; clear hz) | (go_at_call 19; refine HI.out.mono ?_; rintro e w2 ⟨rfl, hz⟩; have HZ := Lib.hid hz.alloc; clear hz) | (go_at_call 16; refine HT.out.mono ?_; rintro e w2 ⟨rfl, hz⟩; have HZ := Lib.hid hz.alloc; clear hz))
    go_end0
    exact ⟨rfl, by rw [HD.out]; exact HZ.out⟩
end Go.Proofs.Ytagcmajiomhbdaa
