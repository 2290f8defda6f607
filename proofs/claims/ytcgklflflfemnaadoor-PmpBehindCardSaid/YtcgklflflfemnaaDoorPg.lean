/- one; awake. -/
import Derived.Test.YtcgklflflfemnaaDoorPf
set_option linter.unusedVariables false
set_option linter.unusedSimpArgs false
namespace Go.Proofs.YtcgklflflfemnaaDoor
open Go.RowKit
def Yes (w : World) (e : Ending) (w' : World) : Prop := e = .returned (.bool true) ∧ Below w.heap.size w w'
theorem ends15 {W4 : World} {q : Nat} {a b c d : Value} (h : Box W4 q 35 #[a, b, c, d]) (tmps : Array Value) (hp : tmps.getD 4 undef = .pointer (some ⟨q, 0, none⟩)) :
    (results Tryd.f15 tmps).run Tryd.prog W4 = .ok (.agg #[a, b, c, d]) W4 := by
  have n0 := h.read 0
  have n1 := h.read 1
  have n2 := h.read 2
  have n3 := h.read 3
  have hp' : tmps[4]?.getD undef = .pointer (some ⟨q, 0, none⟩) := by simpa using hp
  simp at n0 n1 n2 n3
  simp [results, Tryd.results15, go_sem, n0, n1, n2, n3, hp']
theorem one_any (mode kind at' k : Nat) (z : Int) (hk : k < 1024) (ha : at' < 18446744073709551616) (w : World) : Calls Tryd.prog 15 #[acc mode kind at' z, .int .i64 k] w fun e w' => e = .returned (acc mode kind ((at' + k) % 18446744073709551616) 1) ∧ Below w.heap.size w w' := by
  obtain ⟨W2, hW2⟩ : ∃ W2, (w.alloc (.cells #[.int .u8 mode, .int .u8 kind, .int .u64 at', .int .i64 z] 35)).alloc (.cells #[.int .u8 0, .int .u8 0, .int .u64 0, .int .i64 0] 35) = W2 := ⟨_, rfl⟩
  have B2 : Box W2 w.heap.size 35 #[.int .u8 mode, .int .u8 kind, .int .u64 at', .int .i64 z] := by rw [← hW2]; exact (Box.made w 35 _).more _
  have B4 : Box W2 (w.heap.size + 1) 35 #[.int .u8 0, .int .u8 0, .int .u64 0, .int .i64 0] := by rw [← hW2]; exact box2 w _ 35 _
  have BL : Below w.heap.size w W2 := by rw [← hW2]; exact ((Below.refl _ w).alloc (Nat.le_refl _) _).alloc (by simp) _
  have k0 : (0 : Int) ≤ (k : Int) := Int.natCast_nonneg _
  have hv : IntKind.u64.wrap ((at' : Int) + (k : Int)) = (((at' + k) % 18446744073709551616 : Nat) : Int) := by show ((at' : Int) + (k : Int)) % 18446744073709551616 = _; omega
  have hv2 : IntKind.u64.wrap (k : Int) = (k : Int) := by show (k : Int) % 18446744073709551616 = _; omega
  generalize (at' + k) % 18446744073709551616 = v at hv ⊢
  have b0 := B2.read 0
  have b1 := B2.read 1
  have b2 := B2.read 2
  have b3 := B2.read 3
  have f2 := B2.warm 2
  have f3 := B2.warm 3
  have c0 := B4.read 0
  have c1 := B4.read 1
  have c2 := B4.read 2
  have c3 := B4.read 3
  have g0 := B4.warm 0
  have g1 := B4.warm 1
  have g2 := B4.warm 2
  have g3 := B4.warm 3
  have HB := Lib.hid (And.intro B4 BL)
  clear B2 B4 BL
  go_enter Tryd.func15, Tryd.ntmps15
  go_wp2
  exact bodyPost_ret (ends15 (q := w.heap.size + 1) (box_eq ((((((HB.out.1.putFar (p := ⟨w.heap.size, 2, none⟩) (by show w.heap.size + 1 ≠ w.heap.size; omega) _).putFar (p := ⟨w.heap.size, 3, none⟩) (by show w.heap.size + 1 ≠ w.heap.size; omega) _).put 0 _).put 1 _).put 2 _).put 3 _) rfl) _ rfl) rfl ⟨rfl, ((((((HB.out.2.setCell (p := ⟨w.heap.size, 2, none⟩) (by show w.heap.size ≤ w.heap.size; omega) _).setCell (p := ⟨w.heap.size, 3, none⟩) (by show w.heap.size ≤ w.heap.size; omega) _).setCell (p := ⟨w.heap.size + 1, 0, none⟩) (by show w.heap.size ≤ w.heap.size + 1; omega) _).setCell (p := ⟨w.heap.size + 1, 1, none⟩) (by show w.heap.size ≤ w.heap.size + 1; omega) _).setCell (p := ⟨w.heap.size + 1, 2, none⟩) (by show w.heap.size ≤ w.heap.size + 1; omega) _).setCell (p := ⟨w.heap.size + 1, 3, none⟩) (by show w.heap.size ≤ w.heap.size + 1; omega) _)⟩
/-- The chapter's registers. -/
def gA (k : Nat) : Nat := if k = 0 then 4096 else if k = 1 then 4097 else if k = 2 then 8193 else 0
theorem gA_lt (k : Nat) : gA k < 18446744073709551616 := by unfold gA; split; decide; split; decide; split <;> decide
theorem ends11 {W4 : World} {q : Nat} {a b c d e f g h' : Value} {z : Value} (h : Box W4 q 23 #[a, b, c, d, e, f, g, h']) (tmps : Array Value) (hz : tmps.getD 0 undef = z) (hp : tmps.getD 1 undef = .pointer (some ⟨q, 0, none⟩)) :
    (results Tryd.f11 tmps).run Tryd.prog W4 = .ok (.tuple #[z, .agg #[a, b, c, d, e, f, g, h']]) W4 := by
  have n0 := h.read 0
  have n1 := h.read 1
  have n2 := h.read 2
  have n3 := h.read 3
  have n4 := h.read 4
  have n5 := h.read 5
  have n6 := h.read 6
  have n7 := h.read 7
  have hp' : tmps[1]?.getD undef = .pointer (some ⟨q, 0, none⟩) := by simpa using hp
  have hz' : tmps[0]?.getD undef = z := by simpa using hz
  simp at n0 n1 n2 n3 n4 n5 n6 n7
  simp [results, Tryd.results11, go_sem, n0, n1, n2, n3, n4, n5, n6, n7, hp', hz']
theorem given_any (w : World) : Calls Tryd.prog 11 #[] w fun e w' => e = .returned (.tuple #[.int .u64 10228489, .agg #[.int .u64 4096, .int .u64 4097, .int .u64 8193, .int .u64 0, .int .u64 0, .int .u64 0, .int .u64 0, .int .u64 0]]) ∧ Below w.heap.size w w' := by
  go_enter Tryd.func11, Tryd.ntmps11
  go_wp2
  exact bodyPost_ret (ends11 (Box.made w 23 _) _ rfl rfl) rfl ⟨rfl, (Below.refl _ w).alloc (Nat.le_refl _) _⟩
set_option maxHeartbeats 1000000 in
theorem range_any {W w : World} (hT : TzIs W) (hW : Below W.heap.size W w) (c : Nat) (A : Nat → Nat) (i : Nat) (hc : c < 18446744073709551616) (hA : ∀ k, A k < 18446744073709551616) (hi : i < 8) {x : Ent} (hx : entOf c A i = some x) :
    Calls Tryd.prog 8 #[.int .u64 c, .agg (arr A), .int .i64 i] w fun e w' => e = .returned (.tuple #[.int .u64 (x.f : Nat), .int .u64 (x.l : Nat), .bool true]) ∧ Below w.heap.size w w' := by
  have hb4 := Box.made w 23 (arr A)
  have hb0 : Below w.heap.size w (w.alloc (.cells (arr A) 23)) := (Below.refl _ w).alloc (Nat.le_refl _) _
  have r0 : (w.alloc (.cells (arr A) 23)).cell? ⟨w.heap.size, 0, none⟩ = some (.int .u64 (A 0)) := hb4.read 0
  have r1 : (w.alloc (.cells (arr A) 23)).cell? ⟨w.heap.size, 1, none⟩ = some (.int .u64 (A 1)) := hb4.read 1
  have r2 : (w.alloc (.cells (arr A) 23)).cell? ⟨w.heap.size, 2, none⟩ = some (.int .u64 (A 2)) := hb4.read 2
  have r3 : (w.alloc (.cells (arr A) 23)).cell? ⟨w.heap.size, 3, none⟩ = some (.int .u64 (A 3)) := hb4.read 3
  have r4 : (w.alloc (.cells (arr A) 23)).cell? ⟨w.heap.size, 4, none⟩ = some (.int .u64 (A 4)) := hb4.read 4
  have r5 : (w.alloc (.cells (arr A) 23)).cell? ⟨w.heap.size, 5, none⟩ = some (.int .u64 (A 5)) := hb4.read 5
  have r6 : (w.alloc (.cells (arr A) 23)).cell? ⟨w.heap.size, 6, none⟩ = some (.int .u64 (A 6)) := hb4.read 6
  have r7 : (w.alloc (.cells (arr A) 23)).cell? ⟨w.heap.size, 7, none⟩ = some (.int .u64 (A 7)) := hb4.read 7
  have HC := Lib.hid (entry_some hT (hW.trans (hb0.mono hW.size)) c A i hc hA hi hx)
  have HB := Lib.hid hb0
  have k0 : (0 : Int) ≤ (i : Int) := Int.natCast_nonneg _
  have k1 : (i : Int) < 8 := by omega
  clear hb4 hb0 hx hT hW hA
  go_enter Tryd.func8, Tryd.ntmps8
  go_wp2_with (go_at_call 17; refine HC.out.mono ?_; rintro e w1 ⟨rfl, hb⟩; have H1 := Lib.hid (HB.out.trans (hb.mono HB.out.size)); clear hb r0 r1 r2 r3 r4 r5 r6 r7)
  have bx := Box.made w1 45 #[.int .u64 (x.f : Nat), .int .u64 (x.l : Nat), .int .u8 (x.b : Nat)]
  have s0 := bx.read 0
  have s1 := bx.read 1
  have H2 := Lib.hid (H1.out.alloc H1.out.size (.cells #[.int .u64 (x.f : Nat), .int .u64 (x.l : Nat), .int .u8 (x.b : Nat)] 45))
  clear bx
  generalize w1.alloc (.cells #[.int .u64 (x.f : Nat), .int .u64 (x.l : Nat), .int .u8 (x.b : Nat)] 45) = w2 at s0 s1 H2 ⊢
  go_region
  all_goals
    go_wp2
    exact bodyPost_ret (v := .tuple #[.int .u64 (x.f : Nat), .int .u64 (x.l : Nat), .bool true]) (by simp [results, Tryd.results8, go_sem]) rfl ⟨rfl, H2.out.drew⟩
theorem spans_any {W w : World} (hT : TzIs W) (hW : Below W.heap.size W w) (i : Nat) (hi : i < 8) {x : Ent} (hx : entOf 10228489 gA i = some x) (f l : Int) (hf : f = (x.f : Nat)) (hl : l = (x.l : Nat)) (I : Int) (hI : I = (i : Nat)) : Calls Tryd.prog 12 #[.int .i64 I, .int .u64 f, .int .u64 l] w (Yes w) := by
  subst hf hl hI
  have HR := Lib.hid (fun wx (hb : Below w.heap.size w wx) => range_any hT (hW.trans (hb.mono hW.size)) 10228489 gA i (by decide) gA_lt hi hx)
  clear hT hW hx
  go_enter Tryd.func12, Tryd.ntmps12
  go_wp2_with (first
    | (go_at_call 11; refine (given_any w).mono ?_; rintro e w1 ⟨rfl, hb⟩; have H1 := Lib.hid (hb.alloc hb.size (.cells #[.int .u64 4096, .int .u64 4097, .int .u64 8193, .int .u64 0, .int .u64 0, .int .u64 0, .int .u64 0, .int .u64 0] 23)); clear hb)
    | (go_at_call 8; refine (HR.out _ H1.out).mono ?_; rintro e w2 ⟨rfl, hb⟩; have H2 := Lib.hid (H1.out.trans (hb.mono H1.out.size)); clear hb))
  go_ret
  exact ⟨rfl, H2.out⟩
theorem may_any {W w : World} (hT : TzIs W) (hW : Below W.heap.size W w) (mode kind at' z : Nat) (hm : mode < 256) (hk : kind < 256) (ha : at' < 65536) (hz : z < 65536) (r : Bool) (hr : (decide (at' + moreOf z < 18446744073709551616) && allowed mode kind at' (hiOf at' (moreOf z)) (fst8 (entOf 10228489 gA) at' (hiOf at' (moreOf z)))) = r) : Calls Tryd.prog 13 #[.int .u8 (mode : Nat), .int .u8 (kind : Nat), .int .u64 (at' : Nat), .int .i64 (z : Nat)] w fun e w' => e = .returned (.bool r) ∧ Below w.heap.size w w' := by
  have HR := Lib.hid (fun wx (hb : Below w.heap.size w wx) => check_any hT (hW.trans (hb.mono hW.size)) 10228489 gA mode kind at' (z : Nat) (by decide) gA_lt (by omega) (by omega) (by omega))
  rw [hr] at HR
  clear hT hW hr
  go_enter Tryd.func13, Tryd.ntmps13
  go_wp2_with (first
    | (go_at_call 11; refine (given_any w).mono ?_; rintro e w1 ⟨rfl, hb⟩; have H1 := Lib.hid (hb.alloc hb.size (.cells #[.int .u64 4096, .int .u64 4097, .int .u64 8193, .int .u64 0, .int .u64 0, .int .u64 0, .int .u64 0, .int .u64 0] 23)); clear hb)
    | (go_at_call 16; refine (HR.out _ H1.out).mono ?_; rintro e w2 ⟨rfl, hb⟩; have H2 := Lib.hid (H1.out.trans (hb.mono H1.out.size)); clear hb))
  go_ret
  exact ⟨rfl, H2.out⟩
theorem may_to {W w : World} (hT : TzIs W) (hW : Below W.heap.size W w) (mode kind at' z : Nat) (hm : mode < 256) (hk : kind < 256) (ha : at' < 65536) (hz : z < 65536) (r : Bool) (hr : (decide (at' + moreOf z < 18446744073709551616) && allowed mode kind at' (hiOf at' (moreOf z)) (fst8 (entOf 10228489 gA) at' (hiOf at' (moreOf z)))) = r) (M K P Z : Int) (e1 : M = (mode : Nat)) (e2 : K = (kind : Nat)) (e3 : P = (at' : Nat)) (e4 : Z = (z : Nat)) : Calls Tryd.prog 13 #[.int .u8 M, .int .u8 K, .int .u64 P, .int .i64 Z] w fun e w' => e = .returned (.bool r) ∧ Below w.heap.size w w' := by
  subst e1 e2 e3 e4
  exact may_any hT hW mode kind at' z hm hk ha hz r hr
theorem awake_any {W w : World} (hT : TzIs W) (hW : Below W.heap.size W w) : Calls Tryd.prog 10 #[] w (Yes w) := by
  have HT := Lib.hid hT
  have HW := Lib.hid hW
  clear hT hW
  go_enter Tryd.func10, Tryd.ntmps10
  go_wp2_with fail
  refine (spans_any HT.out HW.out 0 (by decide) (x := ⟨0, 16383, 9⟩) (by kernel_rfl) 0 16383 rfl rfl 0 rfl).mono ?_
  rintro e w1 ⟨rfl, hb⟩
  have H1 := Lib.hid hb
  clear hb
  go_wp2_with fail
  refine (spans_any HT.out (HW.out.trans (H1.out.mono HW.out.size)) 2 (by decide) (x := ⟨32768, 32783, 156⟩) (by kernel_rfl) 32768 32783 rfl rfl 2 rfl).mono ?_
  rintro e w2 ⟨rfl, hb⟩
  have H2 := Lib.hid (H1.out.trans (hb.mono H1.out.size))
  clear hb
  go_wp2_with fail
  refine (may_to HT.out (HW.out.trans (H2.out.mono HW.out.size)) 1 1 16380 4 (by decide) (by decide) (by decide) (by decide) true (by decide +kernel) 1 1 16380 4 rfl rfl rfl rfl).mono ?_
  rintro e w3 ⟨rfl, hb⟩
  have H3 := Lib.hid (H2.out.trans (hb.mono H2.out.size))
  clear hb
  go_wp2_with fail
  refine (may_to HT.out (HW.out.trans (H3.out.mono HW.out.size)) 1 1 16382 4 (by decide) (by decide) (by decide) (by decide) false (by decide +kernel) 1 1 16382 4 rfl rfl rfl rfl).mono ?_
  rintro e w4 ⟨rfl, hb⟩
  have H4 := Lib.hid (H3.out.trans (hb.mono H3.out.size))
  clear hb
  go_wp2_with fail
  refine (may_to HT.out (HW.out.trans (H4.out.mono HW.out.size)) 3 1 32768 4 (by decide) (by decide) (by decide) (by decide) false (by decide +kernel) 3 1 32768 4 rfl rfl rfl rfl).mono ?_
  rintro e w5 ⟨rfl, hb⟩
  have H5 := Lib.hid (H4.out.trans (hb.mono H4.out.size))
  clear hb
  go_wp2_with fail
  go_ret
  exact ⟨rfl, H5.out⟩
end Go.Proofs.YtcgklflflfemnaaDoor
