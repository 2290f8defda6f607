/- First, Check. -/
import Derived.Test.YtcgklflflfemnaaDoorPd
set_option linter.unusedVariables false
set_option linter.unusedSimpArgs false
namespace Go.Proofs.YtcgklflflfemnaaDoor
open Go.RowKit
def fv (f l b : Nat) : Value := .agg #[.int .u64 f, .int .u64 l, .int .u8 b]
/-- How things stand in First and Check, behind reach. -/
structure Fs (w wr : World) (A : Nat → Nat) (mode kind at' : Nat) (z : Int) : Prop where
  b4 : Box wr w.heap.size 23 (arr A)
  b5 : Box wr (w.heap.size + 1) 35 #[.int .u8 mode, .int .u8 kind, .int .u64 at', .int .i64 z]
  bel : Below w.heap.size w wr
theorem Fs.over {w wr w' : World} {A : Nat → Nat} {mode kind at' : Nat} {z : Int} (h : Fs w wr A mode kind at' z) (k : Below wr.heap.size wr w') : Fs w w' A mode kind at' z :=
  ⟨h.b4.over k h.b4.inHeap, h.b5.over k h.b5.inHeap, h.bel.trans (k.mono h.bel.size)⟩
theorem fs_made (w : World) (A : Nat → Nat) (mode kind at' : Nat) (z : Int) : Fs w ((w.alloc (.cells (arr A) 23)).alloc (.cells #[.int .u8 mode, .int .u8 kind, .int .u64 at', .int .i64 z] 35)) A mode kind at' z :=
  ⟨(Box.made w 23 (arr A)).more _, box2 w _ 35 _, ((Below.refl _ w).alloc (Nat.le_refl _) _).alloc (by simp) _⟩
theorem Fs.arr {w wr : World} {A : Nat → Nat} {mode kind at' : Nat} {z : Int} (h : Fs w wr A mode kind at' z) (j : Nat) (hj : j < 8) : wr.cell? ⟨w.heap.size, j, none⟩ = some (.int .u64 (A j)) := (h.b4.read j).trans (arr_at A j hj)
section
variable {W w : World} (hT : TzIs W) (hW : Below W.heap.size W w) (c : Nat) (A : Nat → Nat) (mode kind at' : Nat) (z : Int) (hc : c < 18446744073709551616) (hA : ∀ k, A k < 18446744073709551616) (hz0 : -9223372036854775808 ≤ z) (hz1 : z ≤ 9223372036854775807) (ha : at' < 18446744073709551616)
include hT hW hc hA hz0 hz1 ha
set_option maxHeartbeats 2000000 in
theorem first_any : Calls Tryd.prog 14 #[.int .u64 c, .agg (arr A), acc mode kind at' z] w fun e w' => e = .returned (.tuple #[.int .i64 (idx (fst8 (entOf c A) at' (hiOf at' (moreOf z)))), .bool (whl (fst8 (entOf c A) at' (hiOf at' (moreOf z))) (decide (at' + moreOf z < 18446744073709551616)) at' (hiOf at' (moreOf z)))]) ∧ Below w.heap.size w w' := by
  have HR := Lib.hid (reach_any mode kind at' z hz0 hz1 ha)
  have HF := Lib.hid (fun wx (hb : Below w.heap.size w wx) => find_any hT (hW.trans (hb.mono hW.size)) c A at' (hiOf at' (moreOf z)) hc hA)
  have H0 := Lib.hid (fs_made w A mode kind at' z)
  have b0 := H0.out.b5.read 0
  have b1 := H0.out.b5.read 1
  have b2 := H0.out.b5.read 2
  have b3 := H0.out.b5.read 3
  clear hT hW hc hA hz0 hz1 ha
  generalize hiOf at' (moreOf z) = hi at HR HF ⊢
  generalize decide (at' + moreOf z < 18446744073709551616) = all at HR ⊢
  cases hr : fst8 (entOf c A) at' hi with
  | none =>
    rw [hr] at HF
    have HF2 : Hid (∀ wx, Below w.heap.size w wx → Calls Tryd.prog 19 #[.int .u64 c, .agg (arr A), .agg #[.int .u64 at', .int .u64 hi]] wx fun e w' => e = .returned (.tuple #[.int .i64 (-1), .agg #[.int .u64 0, .int .u64 0, .int .u8 0]]) ∧ Below wx.heap.size wx w') := HF
    clear HF hr
    go_enter Tryd.func14, Tryd.ntmps14
    go_wp2_with (first
      | (go_at_call 18; refine (HR.out _).mono ?_; rintro e w1 ⟨rfl, hb⟩; have H1 := Lib.hid (H0.out.over hb); have H2 := Lib.hid (H1.out.over ((Below.refl _ w1).alloc (Nat.le_refl _) (.cells #[.int .u64 at', .int .u64 hi] 43))); clear hb; have r0 := H2.out.arr 0 (by decide); have r1 := H2.out.arr 1 (by decide); have r2 := H2.out.arr 2 (by decide); have r3 := H2.out.arr 3 (by decide); have r4 := H2.out.arr 4 (by decide); have r5 := H2.out.arr 5 (by decide); have r6 := H2.out.arr 6 (by decide); have r7 := H2.out.arr 7 (by decide))
      | (go_at_call 19; refine (HF2.out _ H2.out.bel).mono ?_; rintro e w3 ⟨rfl, hb⟩; have H3 := Lib.hid (H2.out.over hb); clear hb))
    go_ret2
    exact ⟨rfl, H3.out.bel.alloc H3.out.bel.size _⟩
  | some r =>
    obtain ⟨k, x⟩ := r
    rw [hr] at HF
    have HF2 : Hid (∀ wx, Below w.heap.size w wx → Calls Tryd.prog 19 #[.int .u64 c, .agg (arr A), .agg #[.int .u64 at', .int .u64 hi]] wx fun e w' => e = .returned (.tuple #[.int .i64 (k : Nat), .agg #[.int .u64 (x.f : Nat), .int .u64 (x.l : Nat), .int .u8 (x.b : Nat)]]) ∧ Below wx.heap.size wx w') := HF
    have HS := Lib.hid (fun wx => has_any x.f x.l at' hi wx)
    have k1 : (0 : Int) ≤ (k : Int) := Int.natCast_nonneg _
    show Calls _ _ _ _ (fun e w' => e = .returned (.tuple #[.int .i64 (k : Nat), .bool (all && decide (holds x at' hi))]) ∧ _)
    have hd : decide (holds x at' hi) = decide (x.f ≤ at' ∧ hi ≤ x.l) := rfl
    rw [hd]
    generalize decide (x.f ≤ at' ∧ hi ≤ x.l) = q at HS ⊢
    clear HF hr hd
    cases all
    · go_enter Tryd.func14, Tryd.ntmps14
      go_wp2_with (first
        | (go_at_call 18; refine (HR.out _).mono ?_; rintro e w1 ⟨rfl, hb⟩; have H1 := Lib.hid (H0.out.over hb); have H2 := Lib.hid (H1.out.over ((Below.refl _ w1).alloc (Nat.le_refl _) (.cells #[.int .u64 at', .int .u64 hi] 43))); have H2b := Lib.hid (Box.made w1 43 #[.int .u64 at', .int .u64 hi]); clear hb; have r0 := H2.out.arr 0 (by decide); have r1 := H2.out.arr 1 (by decide); have r2 := H2.out.arr 2 (by decide); have r3 := H2.out.arr 3 (by decide); have r4 := H2.out.arr 4 (by decide); have r5 := H2.out.arr 5 (by decide); have r6 := H2.out.arr 6 (by decide); have r7 := H2.out.arr 7 (by decide))
        | (go_at_call 19; refine (HF2.out _ H2.out.bel).mono ?_; rintro e w3 ⟨rfl, hb⟩; have H3 := Lib.hid (H2.out.over hb); have H4 := Lib.hid (H3.out.over ((Below.refl _ w3).alloc (Nat.le_refl _) (.cells #[.int .u64 (x.f : Nat), .int .u64 (x.l : Nat), .int .u8 (x.b : Nat)] 45))); have s0 := ((H2b.out.over hb H2b.out.inHeap).more (.cells #[.int .u64 (x.f : Nat), .int .u64 (x.l : Nat), .int .u8 (x.b : Nat)] 45)).read 0; have s1 := ((H2b.out.over hb H2b.out.inHeap).more (.cells #[.int .u64 (x.f : Nat), .int .u64 (x.l : Nat), .int .u8 (x.b : Nat)] 45)).read 1; clear hb))
      go_ret2
      exact ⟨rfl, H3.out.bel.alloc H3.out.bel.size _⟩
    · go_enter Tryd.func14, Tryd.ntmps14
      go_wp2_with (first
        | (go_at_call 20; have Hx := H4; refine (HS.out _).mono ?_; rintro e w5 ⟨rfl, hb⟩; have H5 := Lib.hid (H4.out.over hb); clear hb)
        | (go_at_call 18; refine (HR.out _).mono ?_; rintro e w1 ⟨rfl, hb⟩; have H1 := Lib.hid (H0.out.over hb); have H2 := Lib.hid (H1.out.over ((Below.refl _ w1).alloc (Nat.le_refl _) (.cells #[.int .u64 at', .int .u64 hi] 43))); have H2b := Lib.hid (Box.made w1 43 #[.int .u64 at', .int .u64 hi]); clear hb; have r0 := H2.out.arr 0 (by decide); have r1 := H2.out.arr 1 (by decide); have r2 := H2.out.arr 2 (by decide); have r3 := H2.out.arr 3 (by decide); have r4 := H2.out.arr 4 (by decide); have r5 := H2.out.arr 5 (by decide); have r6 := H2.out.arr 6 (by decide); have r7 := H2.out.arr 7 (by decide))
        | (go_at_call 19; refine (HF2.out _ H2.out.bel).mono ?_; rintro e w3 ⟨rfl, hb⟩; have H3 := Lib.hid (H2.out.over hb); have H4 := Lib.hid (H3.out.over ((Below.refl _ w3).alloc (Nat.le_refl _) (.cells #[.int .u64 (x.f : Nat), .int .u64 (x.l : Nat), .int .u8 (x.b : Nat)] 45))); have s0 := ((H2b.out.over hb H2b.out.inHeap).more (.cells #[.int .u64 (x.f : Nat), .int .u64 (x.l : Nat), .int .u8 (x.b : Nat)] 45)).read 0; have s1 := ((H2b.out.over hb H2b.out.inHeap).more (.cells #[.int .u64 (x.f : Nat), .int .u64 (x.l : Nat), .int .u8 (x.b : Nat)] 45)).read 1; clear hb))
      go_ret2
      exact ⟨by cases q <;> rfl, H5.out.bel⟩
end
end Go.Proofs.YtcgklflflfemnaaDoor
