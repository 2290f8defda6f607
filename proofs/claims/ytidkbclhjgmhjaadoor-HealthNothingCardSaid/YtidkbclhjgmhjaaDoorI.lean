/- HealthNothing: the law's body. -/
import Derived.Test.YtidkbclhjgmhjaaDoorH
set_option linter.unusedVariables false
set_option linter.unusedSimpArgs false
namespace Go.Proofs.YtidkbclhjgmhjaaDoor
open Go.RowKit

def Yes (w : World) (e : Ending) (w' : World) : Prop := e = .returned (.bool true) ∧ Below w.heap.size w w'
/-- Two monitors that stand the same. -/
structure Pair (W w : World) (B1 B2 : Nat) (T : Nat → Int) (m p r : Int) (h : Bool) (p2 r2 : Int) (h2 : Bool) : Prop where
  b1 : Box w B1 44 (mon T m p r h)
  b2 : Box w B2 44 (mon T m p2 r2 h2)
  bel : Below W.heap.size W w
  l1 : W.heap.size ≤ B1
  l2 : W.heap.size ≤ B2
  ne : B1 ≠ B2
section
variable {W w w' : World} {B1 B2 : Nat} {T : Nat → Int} {m p r p2 r2 p' r' : Int} {h h2 h' : Bool}
theorem Pair.go1 (k : Pair W w B1 B2 T m p r h p2 r2 h2) (b : Box w' B1 44 (mon T m p' r' h')) (o : Only B1 w w') : Pair W w' B1 B2 T m p' r' h' p2 r2 h2 :=
  ⟨b, k.b2.only o k.ne.symm, k.bel.trans (o.below k.l1 k.bel.size), k.l1, k.l2, k.ne⟩
theorem Pair.go2 (k : Pair W w B1 B2 T m p r h p2 r2 h2) (b : Box w' B2 44 (mon T m p' r' h')) (o : Only B2 w w') : Pair W w' B1 B2 T m p r h p' r' h' :=
  ⟨k.b1.only o k.ne, b, k.bel.trans (o.below k.l2 k.bel.size), k.l1, k.l2, k.ne⟩
theorem Pair.later (k : Pair W w B1 B2 T m p r h p2 r2 h2) (d : Below w.heap.size w w') : Pair W w' B1 B2 T m p r h p2 r2 h2 :=
  ⟨k.b1.over d k.b1.inHeap, k.b2.over d k.b2.inHeap, k.bel.trans (d.mono k.bel.size), k.l1, k.l2, k.ne⟩
end
section
variable {T : Nat → Int} {pg li rs : Int} {it : Int → ByteArray}
theorem pend_bd (hT : ∀ k, k < 17 → T k < 5) {f : Nat} {p : Int} {h : Bool} (h0 : 0 ≤ p) (h4 : p ≤ 4) : 0 ≤ pend T f p h ∧ pend T f p h ≤ 4 := by
  unfold pend
  split
  · have := hT f (by omega)
    omega
  · exact ⟨h0, h4⟩
theorem pend_small {f : Nat} {p : Int} {h : Bool} (ha : ¬ 1 < act T f) : pend T f p h = p := by
  unfold pend
  rw [if_neg]
  rintro ⟨h1, h2, _⟩
  exact ha (by unfold act; rw [if_pos h1]; exact h2)
theorem again_bd {m p r : Int} (h0 : 0 ≤ r) (h1 : r ≤ m) : 0 ≤ again m p r ∧ again m p r ≤ m := by
  unfold again
  split <;> omega
set_option maxHeartbeats 400000 in
set_option maxRecDepth 100000 in
theorem law_bad (hT : ∃ k, k < 17 ∧ 5 ≤ T k) (a0 : Option Addr) (len cap : Nat) (w : World) :
    Calls Tryd.prog 4 #[.agg (guest T pg li rs), .slice a0 len cap] w (Yes w) := by
  have hB : Box (w.alloc (.cells (guest T pg li rs) 25)) w.heap.size 25 (guest T pg li rs) := Box.made _ _ _
  by_cases hl : len ≤ 200
  all_goals
    go_enter Tryd.func4, Tryd.ntmps4
    go_wp2_with (refine wpList_load_row rfl 25 (.tmp 2) rfl w.heap.size rfl 25 (guest T pg li rs) (0, 0) _ ?_ Tryd.underlying25 rfl size_guest ?_; exact hB)
    refine (new_bad hT _).mono ?_
    rintro e w1 ⟨rfl, d1⟩
    have g1 : Box w1 w.heap.size 25 (guest T pg li rs) := hB.over d1 (by simp)
    go_wp2_with (refine wpList_load_row rfl 25 (.tmp 2) rfl w.heap.size rfl 25 (guest T pg li rs) (0, 0) _ ?_ Tryd.underlying25 rfl size_guest ?_; exact g1)
    refine (new_bad hT _).mono ?_
    rintro e w2 ⟨rfl, d2⟩
    go_wp2_with fail
    refine (awake_any _).mono ?_
    rintro e w3 ⟨rfl, d3⟩
    go_wp2_with fail
    go_ret
    have s1 := d1.size
    have s2 := d2.size
    simp at s1
    exact ⟨rfl, ((((Below.refl _ _).alloc (Nat.le_refl _) _).trans (d1.mono (by simp))).trans (d2.mono (by omega))).trans (d3.mono (by omega))⟩
set_option maxHeartbeats 400000 in
set_option maxRecDepth 100000 in
theorem law_long (hT : ∀ k, k < 17 → T k < 5) (a0 : Option Addr) (len cap : Nat) (hl : 200 < len) (w : World) :
    Calls Tryd.prog 4 #[.agg (guest T pg li rs), .slice a0 len cap] w (Yes w) := by
  have hB : Box (w.alloc (.cells (guest T pg li rs) 25)) w.heap.size 25 (guest T pg li rs) := Box.made _ _ _
  go_enter Tryd.func4, Tryd.ntmps4
  go_wp2_with (refine wpList_load_row rfl 25 (.tmp 2) rfl w.heap.size rfl 25 (guest T pg li rs) (0, 0) _ ?_ Tryd.underlying25 rfl size_guest ?_; exact hB)
  refine (new_ok hT _).mono ?_
  rintro e w1 ⟨B1, rfl, hB1, b1, d1⟩
  have g1 : Box w1 w.heap.size 25 (guest T pg li rs) := hB.over d1 (by simp)
  go_wp2_with (refine wpList_load_row rfl 25 (.tmp 2) rfl w.heap.size rfl 25 (guest T pg li rs) (0, 0) _ ?_ Tryd.underlying25 rfl size_guest ?_; exact g1)
  refine (new_ok hT _).mono ?_
  rintro e w2 ⟨B2, rfl, hB2, b2, d2⟩
  go_wp2_with fail
  refine (awake_any _).mono ?_
  rintro e w3 ⟨rfl, d3⟩
  go_wp2_with fail
  go_ret
  have s1 := d1.size
  have s2 := d2.size
  simp at s1
  exact ⟨rfl, ((((Below.refl _ _).alloc (Nat.le_refl _) _).trans (d1.mono (by simp))).trans (d2.mono (by omega))).trans (d3.mono (by omega))⟩
set_option maxHeartbeats 400000 in
set_option maxRecDepth 100000 in
theorem law_empty (hT : ∀ k, k < 17 → T k < 5) (a0 : Option Addr) (cap : Nat) (w : World) :
    Calls Tryd.prog 4 #[.agg (guest T pg li rs), .slice a0 0 cap] w (Yes w) := by
  have hB : Box (w.alloc (.cells (guest T pg li rs) 25)) w.heap.size 25 (guest T pg li rs) := Box.made _ _ _
  go_enter Tryd.func4, Tryd.ntmps4
  go_wp2_with (refine wpList_load_row rfl 25 (.tmp 2) rfl w.heap.size rfl 25 (guest T pg li rs) (0, 0) _ ?_ Tryd.underlying25 rfl size_guest ?_; exact hB)
  refine (new_ok hT _).mono ?_
  rintro e w1 ⟨B1, rfl, hB1, b1, d1⟩
  have g1 : Box w1 w.heap.size 25 (guest T pg li rs) := hB.over d1 (by simp)
  go_wp2_with (refine wpList_load_row rfl 25 (.tmp 2) rfl w.heap.size rfl 25 (guest T pg li rs) (0, 0) _ ?_ Tryd.underlying25 rfl size_guest ?_; exact g1)
  refine (new_ok hT _).mono ?_
  rintro e w2 ⟨B2, rfl, hB2, b2, d2⟩
  go_wp2_with fail
  refine wp_loop_rounds 1 ?_
  rw [rounds_succ]
  go_wp2_with fail
  refine (awake_any _).mono ?_
  rintro e w3 ⟨rfl, d3⟩
  go_wp2_with fail
  go_ret
  have s1 := d1.size
  have s2 := d2.size
  simp at s1
  exact ⟨rfl, ((((Below.refl _ _).alloc (Nat.le_refl _) _).trans (d1.mono (by simp))).trans (d2.mono (by omega))).trans (d3.mono (by omega))⟩
set_option maxHeartbeats 12800000 in
set_option maxRecDepth 100000 in
theorem law_row (hT : ∀ k, k < 17 → T k < 5) (h0 : 0 ≤ rs) (h1 : rs ≤ 255) (b off len cap : Nat) (zs : List Int) (hl : len ≤ 200) (w : World) (hN : Nums it w) (hb : b < w.heap.size)
    (hc : ∀ i, i < len → w.cell? ⟨b, off + i, none⟩ = some (.int .u8 (zs.getD i 0)) ∧ 0 ≤ zs.getD i 0 ∧ zs.getD i 0 ≤ 255) :
    Calls Tryd.prog 4 #[.agg (guest T pg li rs), .slice (some ⟨b, off, none⟩) len cap] w (Yes w) := by
  have hB : Box (w.alloc (.cells (guest T pg li rs) 25)) w.heap.size 25 (guest T pg li rs) := Box.made _ _ _
  have HC := Lib.hid hc
  have HN := Lib.hid hN
  clear hc hN
  go_enter Tryd.func4, Tryd.ntmps4
  go_wp2_with (refine wpList_load_row rfl 25 (.tmp 2) rfl w.heap.size rfl 25 (guest T pg li rs) (0, 0) _ ?_ Tryd.underlying25 rfl size_guest ?_; exact hB)
  refine (new_ok hT _).mono ?_
  rintro e w1 ⟨B1, rfl, hB1, b1, d1⟩
  have g1 : Box w1 w.heap.size 25 (guest T pg li rs) := hB.over d1 (by simp)
  go_wp2_with (refine wpList_load_row rfl 25 (.tmp 2) rfl w.heap.size rfl 25 (guest T pg li rs) (0, 0) _ ?_ Tryd.underlying25 rfl size_guest ?_; exact g1)
  refine (new_ok hT _).mono ?_
  rintro e w2 ⟨B2, rfl, hB2, b2, d2⟩
  have hp : Pair w w2 B1 B2 T rs 0 0 false 0 0 false := by
    have s1 := d1.size
    have i1 := b1.inHeap
    simp at s1 hB1
    exact ⟨b1.over d2 i1, b2, (((Below.refl _ _).alloc (Nat.le_refl _) _).trans (d1.mono (by simp))).trans (d2.mono (by omega)), by omega, by omega, by omega⟩
  clear b1 b2 d1 d2 g1 hB hB1 hB2
  go_wp2_with fail
  go_loopw [9] (fun i wr => ∃ (k : Nat) (p re : Int) (ha : Bool), k ≤ len ∧ i = .int .i64 k ∧ 0 ≤ p ∧ p ≤ 4 ∧ 0 ≤ re ∧ re ≤ rs ∧ Pair w wr B1 B2 T rs p re ha p re ha) (fun i _ => len - (intOf i).toNat)
  case atStart => exact ⟨0, 0, 0, false, by omega, rfl, by omega, by omega, by omega, h0, hp⟩
  case round =>
    obtain ⟨k, p, re, ha, hk, rfl, hp0, hp4, hr0, hr1, hq⟩ := hrel
    clear hp
    by_cases hlt : k < len
    · obtain ⟨hcz, hz0, hz1⟩ := HC.out k hlt
      obtain ⟨f, hf⟩ : ∃ f : Nat, zs.getD k 0 = f := ⟨(zs.getD k 0).toNat, by omega⟩
      rw [hf] at hcz hz0 hz1
      have later : ∀ wx, Below w.heap.size w wx → wx.cell? ⟨b, off + k, none⟩ = some (.int .u8 f) := fun wx bel => (bel.cell (p := ⟨b, off + k, none⟩) hb).trans hcz
      have hcell := later wr hq.bel
      have LA := Lib.hid later
      have hf2 : f < 256 := by omega
      clear hf hcz HC later
      have HP := Lib.hid hq
      clear hq
      have ba := again_bd (m := rs) (p := p) hr0 hr1
      have bp := pend_bd hT (f := f) (h := ha) hp0 hp4
      by_cases hzz : f = 255
      · subst hzz
        go_wp2_with (first
          | (go_at_call 17; have q := HQ2; clear q; refine (text_any HN.out HQ2.out.b2 (by omega) (by omega) (by omega) (by omega) HQ2.out.bel).mono ?_; rintro e w5 ⟨rfl, d5⟩; have q3 := HQ2.out.later d5; have HQ3 := Lib.hid q3; clear q3 d5)
          | (go_at_call 17; refine (text_any HN.out HQ.out.b1 (by omega) (by omega) (by omega) (by omega) HQ.out.bel).mono ?_; rintro e w4 ⟨rfl, d4⟩; have q2 := HQ.out.later d4; have HQ2 := Lib.hid q2; clear q2 d4)
          | (go_at_call 9; have q := HH; clear q; refine (take_any HH.out.b2 hp0 hp4 hr0 hr1 h1).mono ?_; rintro e w3 ⟨rfl, b3, o3⟩; have q1 := HH.out.go2 b3 o3; have HQ := Lib.hid q1; clear q1 b3 o3)
          | (go_at_call 9; refine (take_any HP.out.b1 hp0 hp4 hr0 hr1 h1).mono ?_; rintro e w2 ⟨rfl, b2, o2⟩; have q0 := HP.out.go1 b2 o2; have HH := Lib.hid q0; clear q0 b2 o2))
        go_roundw
        case rel => exact ⟨k + 1, _, _, _, by omega, by go_num, by omega, by omega, ba.1, ba.2, HQ3.out⟩
        case measure => simp [intOf]; omega
      · have t0 : ((f : Int) == 255) = false := beq_eq_false_iff_ne.2 (by omega)
        by_cases ha1 : 1 < act T f
        · go_wp2_with (first
            | (go_at_call 17; have q := HQ2; clear q; refine (text_any HN.out HQ2.out.b2 (by omega) (by omega) (by omega) (by omega) HQ2.out.bel).mono ?_; rintro e w5 ⟨rfl, d5⟩; have q3 := HQ2.out.later d5; have HQ3 := Lib.hid q3; clear q3 d5)
            | (go_at_call 17; refine (text_any HN.out HQ.out.b1 (by omega) (by omega) (by omega) (by omega) HQ.out.bel).mono ?_; rintro e w4 ⟨rfl, d4⟩; have q2 := HQ.out.later d4; have HQ2 := Lib.hid q2; clear q2 d4)
            | (go_at_call 11; have q := HH; clear q; refine (raise_any HH.out.b2 f hf2).mono ?_; rintro e w3 ⟨rfl, b3, o3⟩; have q1 := HH.out.go2 b3 o3; have HQ := Lib.hid q1; clear q1 b3 o3)
            | (go_at_call 11; refine (raise_any HP.out.b1 f hf2).mono ?_; rintro e w2 ⟨rfl, b2, o2⟩; have q0 := HP.out.go1 b2 o2; have hcell2 := LA.out _ q0.bel; have HH := Lib.hid q0; clear q0 b2 o2))
          go_roundw
          case rel => exact ⟨k + 1, _, _, _, by omega, by go_num, bp.1, bp.2, hr0, hr1, HQ3.out⟩
          case measure => simp [intOf]; omega
        · have hps := pend_small (p := p) (h := ha) ha1
          have HS := Lib.hid hps
          clear hps
          go_wp2_with (first
            | (go_at_call 17; have q := HQ2; clear q; refine (text_any HN.out HQ2.out.b2 (by omega) (by omega) (by omega) (by omega) HQ2.out.bel).mono ?_; rintro e w5 ⟨rfl, d5⟩; have q3 := HQ2.out.later d5; have HQ3 := Lib.hid q3; clear q3 d5)
            | (go_at_call 17; refine (text_any HN.out HQ.out.b1 (by omega) (by omega) (by omega) (by omega) HQ.out.bel).mono ?_; rintro e w4 ⟨rfl, d4⟩; have q2 := HQ.out.later d4; have HQ2 := Lib.hid q2; clear q2 d4)
            | (go_at_call 11; refine (raise_any HP.out.b1 f hf2).mono ?_; rintro e w2 ⟨rfl, b2, o2⟩; rw [HS.out] at b2; have q0 := HP.out.go1 b2 o2; have hcell2 := LA.out _ q0.bel; have HQ := Lib.hid q0; clear q0 b2 o2))
          go_roundw
          case rel => exact ⟨k + 1, _, _, _, by omega, by go_num, hp0, hp4, hr0, hr1, HQ3.out⟩
          case measure => simp [intOf]; omega
    · have HP := Lib.hid hq
      clear hq
      go_wp2_with fail
      refine (awake_any _).mono ?_
      rintro e w3 ⟨rfl, d3⟩
      go_wp2_with fail
      go_ret
      exact ⟨rfl, HP.out.bel.trans (d3.mono HP.out.bel.size)⟩
end
end Go.Proofs.YtidkbclhjgmhjaaDoor
