/- An act upon both. -/
import Derived.Test.YtlgefljbhbefgaaDoorDg
set_option linter.unusedVariables false
set_option linter.unusedSimpArgs false
namespace Go.Proofs.YtlgefljbhbefgaaDoor
open Go.RowKit
attribute [local go_sem] Oper.semAt_some
theorem only2 {P D : Nat} {w w2 w3 : World} (h1 : Only P w w2) (h2 : Only D w2 w3) : Touch (fun b => b = P ∨ b = D) w w3 :=
  ⟨h2.os.trans h1.os, h2.tape.trans h1.tape, h2.output.trans h1.output, Nat.le_trans h1.size h2.size, fun k hk hn => (h2.block k (Nat.lt_of_lt_of_le hk h1.size) (fun e => hn (.inr e))).trans (h1.block k hk (fun e => hn (.inl e)))⟩
/-- What an act makes of it. -/
def PS.act (s : PS) (f : Deed) : PS := if f.k % 13 < 3 then s.raiseI f.n f.hi else if f.k % 13 < 7 then s.rdI f.off f.wd else s.wrI f.off f.v f.wd
theorem PS.ok2.act {s : PS} (h : s.ok2) (f : Deed) : (s.act f).ok2 := by
  unfold PS.act
  split
  · exact h.raiseI _ _
  · split
    · exact h.rdI _ _
    · exact h.wrI _ _ _
/-- Both stand in memory. -/
structure Pd (w : World) (P D : Nat) (s : PS) : Prop where
  p : Box w P 58 (plc s)
  d : Box w D 32 (dpl s.doc)
  ok : s.ok2
structure Pd3 (w : World) (D X : Nat) (s : PS) (xs : Array Value) : Prop where
  d : Box w D 32 (dpl s.doc)
  x : Box w X 35 xs
theorem touch_new {K : Nat → Prop} {w w1 w2 : World} (h : Below w.heap.size w w1) (k : Touch K w1 w2) : Touch K w w2 :=
  ⟨k.os.trans h.os, k.tape.trans h.tape, k.output.trans h.output, Nat.le_trans h.size k.size, fun i hi hn => (k.block i (Nat.lt_of_lt_of_le hi h.size) hn).trans (h.block i hi)⟩
section
variable {w w2 : World} {P D : Nat} {s : PS}
theorem Pd.below (h : Pd w P D s) (hb : Below w.heap.size w w2) : Pd w2 P D s := ⟨h.p.over hb h.p.inHeap, h.d.over hb h.d.inHeap, h.ok⟩
set_option maxHeartbeats 8000000 in
set_option maxRecDepth 100000 in
theorem one_any (h : Pd w P D s) (f : Deed) (hk : f.k < 256) (ho : f.off < 18446744073709551616) (hv : f.v < 18446744073709551616) (hn : f.n ≤ 9223372036854775807) : Calls Tryd.prog 11 #[.pointer (some ⟨P, 0, none⟩), .pointer (some ⟨D, 0, none⟩), .agg (acs f.k f.n f.hi f.off f.v f.wd)] w fun e w' => e = .returned (.bool true) ∧ Pd w' P D (s.act f) ∧ Touch (fun b => b = P ∨ b = D) w w' := by
  obtain ⟨what, N, hi, off, v, wd⟩ := f
  simp only at hk ho hv hn ⊢
  have HS : Hid (s.act ⟨what, N, hi, off, v, wd⟩ = if what % 13 < 3 then s.raiseI N hi else if what % 13 < 7 then s.rdI off wd else s.wrI off v wd) := Lib.hid rfl
  obtain ⟨t, ht⟩ : ∃ t, t = s.act ⟨what, N, hi, off, v, wd⟩ := ⟨_, rfl⟩
  rw [← ht]
  rw [HS.out] at ht
  clear HS
  obtain ⟨w1, hw1⟩ : ∃ w1, w1 = w.alloc (.cells (acs what N hi off v wd) 35) := ⟨_, rfl⟩
  have b1 : Below w.heap.size w w1 := by rw [hw1]; exact (Below.refl _ _).alloc (Nat.le_refl _) _
  have hx1 : Box w1 w.heap.size 35 (acs what N hi off v wd) := by rw [hw1]; exact Box.made _ _ _
  have H1 : Hid (Pd w1 P D s ∧ Below w.heap.size w w1) := Lib.hid ⟨h.below b1, b1⟩
  obtain ⟨X, hX⟩ : ∃ X, X = w.heap.size := ⟨_, rfl⟩
  have HX := Lib.hid hx1
  rw [← hX] at HX
  have hXP : P < X := by rw [hX]; exact h.p.inHeap
  have hXD : D < X := by rw [hX]; exact h.d.inHeap
  have LX : Hid (∀ W, Box W X 35 (acs what N hi off v wd) → W.cell? ⟨X, 0, none⟩ = some (.int .u8 what) ∧ W.cell? ⟨X, 1, none⟩ = some (.int .i64 N) ∧ W.cell? ⟨X, 2, none⟩ = some (.bool hi) ∧ W.cell? ⟨X, 3, none⟩ = some (.int .u64 off) ∧ W.cell? ⟨X, 4, none⟩ = some (.int .u64 v) ∧ W.cell? ⟨X, 5, none⟩ = some (.int .i64 wd)) := Lib.hid fun W hx => ⟨hx.read 0, hx.read 1, hx.read 2, hx.read 3, hx.read 4, hx.read 5⟩
  have hPX : Hid (X ≠ P ∧ X ≠ D ∧ D ≠ P) := Lib.hid ⟨by omega, by omega, box_ne h.d h.p (by decide)⟩
  clear hx1 b1 h
  go_enter Tryd.func11, Tryd.ntmps11
  iterate 8 (try (first | go_values | go_skip | go_guarded | go_step | go_upon | go_in | go_back))
  rw [← hw1, ← hX]
  clear hw1
  obtain ⟨c0, c1, c2, c3, c4, c5⟩ := LX.out _ HX.out
  have hr1 : (what : Int) % 13 = ((what % 13 : Nat) : Int) := rfl
  have hr2 : (what : Int).tmod 13 = ((what % 13 : Nat) : Int) := rfl
  have hr13 : what % 13 < 13 := Nat.mod_lt _ (by decide)
  generalize what % 13 = r at hr1 hr2 hr13 ht
  have HW := Lib.hid hX
  clear hX hXP hXD
  by_cases h3 : r < 3
  · rw [if_pos h3] at ht
    subst ht
    have hc : r = 0 ∨ r = 1 ∨ r = 2 := by omega
    clear h3 hr13
    rcases hc with rfl | rfl | rfl
    all_goals
      go_wp2_with (first
        | (go_at_call 25; refine (draise_any H3.out.2.d H1.out.1.ok.ok N hi).mono ?_; rintro e w4 ⟨rfl, hb4, ho4⟩; have H4 := Lib.hid (And.intro hb4 ho4); clear hb4 ho4)
        | (go_at_call 10; refine (raise_ev H1.out.1.p N hn hi).mono ?_; rintro e w3 ⟨rfl, hb3, ho3⟩; have H3 := Lib.hid (And.intro (And.intro hb3 ho3) (Pd3.mk (H1.out.1.d.only ho3 hPX.out.2.2) (HX.out.only ho3 hPX.out.1))); clear hb3 ho3 c0 c1 c2 c3 c4 c5; obtain ⟨c0, c1, c2, c3, c4, c5⟩ := LX.out _ H3.out.2.x))
      go_ret
      exact ⟨by simp, ⟨H3.out.1.1.only H4.out.2 hPX.out.2.2.symm, H4.out.1, H1.out.1.ok.raiseI _ _⟩, touch_new H1.out.2 (only2 H3.out.1.2 H4.out.2)⟩
  · rw [if_neg h3] at ht
    by_cases h7 : r < 7
    · rw [if_pos h7] at ht
      subst ht
      have hc : r = 3 ∨ r = 4 ∨ r = 5 ∨ r = 6 := by omega
      clear h3 h7 hr13
      rcases hc with rfl | rfl | rfl | rfl
      all_goals
        go_wp2_with (first
          | (go_at_call 26; refine (dread_any H3.out.2.d H1.out.1.ok.ok off wd).mono ?_; rintro e w4 ⟨rfl, hb4, ho4⟩; have H4 := Lib.hid (And.intro hb4 ho4); clear hb4 ho4)
          | (go_at_call 17; refine (read_ev H1.out.1.p H1.out.1.ok.ok off wd).mono ?_; rintro e w3 ⟨rfl, hb3, ho3⟩; have H3 := Lib.hid (And.intro (And.intro hb3 ho3) (Pd3.mk (H1.out.1.d.only ho3 hPX.out.2.2) (HX.out.only ho3 hPX.out.1))); clear hb3 ho3 c0 c1 c2 c3 c4 c5; obtain ⟨c0, c1, c2, c3, c4, c5⟩ := LX.out _ H3.out.2.x))
        go_ret
        exact ⟨by simp, ⟨H3.out.1.1.only H4.out.2 hPX.out.2.2.symm, H4.out.1, H1.out.1.ok.rdI _ _⟩, touch_new H1.out.2 (only2 H3.out.1.2 H4.out.2)⟩
    · rw [if_neg h7] at ht
      subst ht
      have e0 : ((r : Int) == 0) = false := beq_eq_false_iff_ne.2 (by omega)
      have e1 : ((r : Int) == 1) = false := beq_eq_false_iff_ne.2 (by omega)
      have e2 : ((r : Int) == 2) = false := beq_eq_false_iff_ne.2 (by omega)
      have e3 : ((r : Int) == 3) = false := beq_eq_false_iff_ne.2 (by omega)
      have e4 : ((r : Int) == 4) = false := beq_eq_false_iff_ne.2 (by omega)
      have e5 : ((r : Int) == 5) = false := beq_eq_false_iff_ne.2 (by omega)
      have e6 : ((r : Int) == 6) = false := beq_eq_false_iff_ne.2 (by omega)
      clear h3 h7 hr13
      go_wp2_with (first
        | (go_at_call 27; refine (dwrite_any H3.out.2.d H1.out.1.ok off v hv wd).mono ?_; rintro e w4 ⟨rfl, hb4, ho4⟩; have H4 := Lib.hid (And.intro hb4 ho4); clear hb4 ho4)
        | (go_at_call 18; refine (write_ev H1.out.1.p H1.out.1.ok.ok off v hv wd).mono ?_; rintro e w3 ⟨rfl, hb3, ho3⟩; have H3 := Lib.hid (And.intro (And.intro hb3 ho3) (Pd3.mk (H1.out.1.d.only ho3 hPX.out.2.2) (HX.out.only ho3 hPX.out.1))); clear hb3 ho3 c0 c1 c2 c3 c4 c5; obtain ⟨c0, c1, c2, c3, c4, c5⟩ := LX.out _ H3.out.2.x))
      go_ret
      exact ⟨by simp, ⟨H3.out.1.1.only H4.out.2 hPX.out.2.2.symm, H4.out.1, H1.out.1.ok.wrI _ _ _⟩, touch_new H1.out.2 (only2 H3.out.1.2 H4.out.2)⟩
end
end Go.Proofs.YtlgefljbhbefgaaDoor
