/- meets, has, find. -/
import Derived.Test.YtcgklflflfemnaaDoorPb
import Derived.WalkMore
set_option linter.unusedVariables false
set_option linter.unusedSimpArgs false
namespace Go.Proofs.YtcgklflflfemnaaDoor
open Go.RowKit
theorem two_boxes (w : World) (a b c d : Int) : Below w.heap.size w ((w.alloc (.cells #[.int .u64 a, .int .u64 b] 43)).alloc (.cells #[.int .u64 c, .int .u64 d] 43)) := ((Below.refl _ w).alloc (Nat.le_refl _) _).alloc (by simp) _
theorem meets_any (f l lo hi : Nat) (w : World) : Calls Tryd.prog 22 #[.agg #[.int .u64 f, .int .u64 l], .agg #[.int .u64 lo, .int .u64 hi]] w fun e w' => e = .returned (.bool (decide (f ≤ hi ∧ lo ≤ l))) ∧ Below w.heap.size w w' := by
  have hb := two_boxes w f l lo hi
  by_cases h1 : f ≤ hi
  · by_cases h2 : lo ≤ l
    · have e : decide (f ≤ hi ∧ lo ≤ l) = true := decide_eq_true ⟨h1, h2⟩
      rw [e]
      clear e
      go_enter Tryd.func22, Tryd.ntmps22
      go_wp2
      go_ret
      exact ⟨rfl, hb⟩
    · have e : decide (f ≤ hi ∧ lo ≤ l) = false := decide_eq_false (fun h => h2 h.2)
      rw [e]
      clear e
      have h3 : decide (lo ≤ l) = false := decide_eq_false h2
      go_enter Tryd.func22, Tryd.ntmps22
      go_wp2
      go_ret
      exact ⟨rfl, hb⟩
  · have e : decide (f ≤ hi ∧ lo ≤ l) = false := decide_eq_false (fun h => h1 h.1)
    rw [e]
    clear e
    have h3 : decide (f ≤ hi) = false := decide_eq_false h1
    go_enter Tryd.func22, Tryd.ntmps22
    go_wp2
    go_ret
    exact ⟨rfl, hb⟩
theorem has_any (f l lo hi : Nat) (w : World) : Calls Tryd.prog 20 #[.agg #[.int .u64 f, .int .u64 l], .agg #[.int .u64 lo, .int .u64 hi]] w fun e w' => e = .returned (.bool (decide (f ≤ lo ∧ hi ≤ l))) ∧ Below w.heap.size w w' := by
  have hb := two_boxes w f l lo hi
  by_cases h1 : f ≤ lo
  · by_cases h2 : hi ≤ l
    · have e : decide (f ≤ lo ∧ hi ≤ l) = true := decide_eq_true ⟨h1, h2⟩
      rw [e]
      clear e
      go_enter Tryd.func20, Tryd.ntmps20
      go_wp2
      go_ret
      exact ⟨rfl, hb⟩
    · have e : decide (f ≤ lo ∧ hi ≤ l) = false := decide_eq_false (fun h => h2 h.2)
      rw [e]
      clear e
      have h3 : decide (hi ≤ l) = false := decide_eq_false h2
      go_enter Tryd.func20, Tryd.ntmps20
      go_wp2
      go_ret
      exact ⟨rfl, hb⟩
  · have e : decide (f ≤ lo ∧ hi ≤ l) = false := decide_eq_false (fun h => h1 h.1)
    rw [e]
    clear e
    have h3 : decide (f ≤ lo) = false := decide_eq_false h1
    go_enter Tryd.func20, Tryd.ntmps20
    go_wp2
    go_ret
    exact ⟨rfl, hb⟩
/-- What find tells. -/
def foundV (r : Option (Nat × Ent)) : Value := match r with
  | some r => .tuple #[.int .i64 (r.1 : Nat), .agg #[.int .u64 (r.2.f : Nat), .int .u64 (r.2.l : Nat), .int .u8 (r.2.b : Nat)]]
  | none => .tuple #[.int .i64 (-1), .agg #[.int .u64 0, .int .u64 0, .int .u8 0]]
theorem entry_none {W w : World} (hT : TzIs W) (hW : Below W.heap.size W w) (c : Nat) (A : Nat → Nat) (i : Nat) (hc : c < 18446744073709551616) (hA : ∀ k, A k < 18446744073709551616) (hi : i < 8) (h : entOf c A i = none) :
    Calls Tryd.prog 17 #[.int .u64 c, .agg (arr A), .int .i64 i] w fun e w' => (∃ f l b, e = .returned (.tuple #[.agg #[.int .u64 f, .int .u64 l, .int .u8 b], .bool false])) ∧ Below w.heap.size w w' :=
  (entry_any hT hW c A i hc hA hi).mono fun e w' ⟨⟨f, l, b, ok, he, h1, h2⟩, hb⟩ => by
    cases ok
    · exact ⟨⟨f, l, b, he⟩, hb⟩
    · obtain ⟨x, hx, _⟩ := h1 rfl
      rw [h] at hx
      cases hx
theorem entry_some {W w : World} (hT : TzIs W) (hW : Below W.heap.size W w) (c : Nat) (A : Nat → Nat) (i : Nat) (hc : c < 18446744073709551616) (hA : ∀ k, A k < 18446744073709551616) (hi : i < 8) {x : Ent} (h : entOf c A i = some x) :
    Calls Tryd.prog 17 #[.int .u64 c, .agg (arr A), .int .i64 i] w fun e w' => e = .returned (.tuple #[.agg #[.int .u64 (x.f : Nat), .int .u64 (x.l : Nat), .int .u8 (x.b : Nat)], .bool true]) ∧ Below w.heap.size w w' :=
  (entry_any hT hW c A i hc hA hi).mono fun e w' ⟨⟨f, l, b, ok, he, h1, h2⟩, hb⟩ => by
    cases ok
    · have := h2 rfl
      rw [h] at this
      cases this
    · obtain ⟨y, hy, rfl, rfl, rfl⟩ := h1 rfl
      rw [h] at hy
      cases hy
      exact ⟨he, hb⟩
/-- How things stand in find. -/
structure Fd (w wr : World) (A : Nat → Nat) (lo hi : Nat) : Prop where
  b4 : Box wr w.heap.size 23 (arr A)
  b5 : Box wr (w.heap.size + 1) 43 #[.int .u64 lo, .int .u64 hi]
  b7 : Box wr (w.heap.size + 1 + 1) 45 #[.int .u64 0, .int .u64 0, .int .u8 0]
  b8 : Box wr (w.heap.size + 1 + 1 + 1) 45 #[.int .u64 0, .int .u64 0, .int .u8 0]
  bel : Below w.heap.size w wr
theorem Fd.over {w wr w' : World} {A : Nat → Nat} {lo hi : Nat} (h : Fd w wr A lo hi) (k : Below wr.heap.size wr w') : Fd w w' A lo hi :=
  ⟨h.b4.over k h.b4.inHeap, h.b5.over k h.b5.inHeap, h.b7.over k h.b7.inHeap, h.b8.over k h.b8.inHeap, h.bel.trans (k.mono h.bel.size)⟩
theorem srch_step {E : Ents} {lo hi k : Nat} (hk : k < 8) : srch E lo hi (8 - k) k = match E k with
    | some e => if hits e lo hi then some (k, e) else srch E lo hi (8 - (k + 1)) (k + 1)
    | none => srch E lo hi (8 - (k + 1)) (k + 1) := by
  obtain ⟨m, hm⟩ : ∃ m, 8 - k = m + 1 := ⟨7 - k, by omega⟩
  have hm2 : 8 - (k + 1) = m := by omega
  rw [hm, hm2]
  rfl
theorem ends19 {W4 : World} {q : Nat} {f l b z : Int} (h : Box W4 q 45 #[.int .u64 f, .int .u64 l, .int .u8 b]) (tmps : Array Value) (hp : tmps.getD 7 undef = .pointer (some ⟨q, 0, none⟩)) (hq : tmps.getD 6 undef = .int .i64 z) :
    (results Tryd.f19 tmps).run Tryd.prog W4 = .ok (.tuple #[.int .i64 z, .agg #[.int .u64 f, .int .u64 l, .int .u8 b]]) W4 := by
  have n0 := h.read 0
  have n1 := h.read 1
  have n2 := h.read 2
  have hp' : tmps[7]?.getD undef = .pointer (some ⟨q, 0, none⟩) := by simpa using hp
  have hq' : tmps[6]?.getD undef = .int .i64 z := by simpa using hq
  simp at n0 n1 n2
  simp [results, Tryd.results19, go_sem, n0, n1, n2, hp', hq']
set_option maxHeartbeats 2000000 in
theorem find_any {W w : World} (hT : TzIs W) (hW : Below W.heap.size W w) (c : Nat) (A : Nat → Nat) (lo hi : Nat) (hc : c < 18446744073709551616) (hA : ∀ k, A k < 18446744073709551616) :
    Calls Tryd.prog 19 #[.int .u64 c, .agg (arr A), .agg #[.int .u64 lo, .int .u64 hi]] w fun e w' => e = .returned (foundV (fst8 (entOf c A) lo hi)) ∧ Below w.heap.size w w' := by
  have HF : Hid (Fd w ((((w.alloc (.cells (arr A) 23)).alloc (.cells #[.int .u64 lo, .int .u64 hi] 43)).alloc (.cells #[.int .u64 0, .int .u64 0, .int .u8 0] 45)).alloc (.cells #[.int .u64 0, .int .u64 0, .int .u8 0] 45)) A lo hi) := Lib.hid (by
    have x5 := Box.made (w.alloc (.cells (arr A) 23)) 43 #[.int .u64 lo, .int .u64 hi]
    have x7 := Box.made ((w.alloc (.cells (arr A) 23)).alloc (.cells #[.int .u64 lo, .int .u64 hi] 43)) 45 #[.int .u64 0, .int .u64 0, .int .u8 0]
    have x8 := Box.made (((w.alloc (.cells (arr A) 23)).alloc (.cells #[.int .u64 lo, .int .u64 hi] 43)).alloc (.cells #[.int .u64 0, .int .u64 0, .int .u8 0] 45)) 45 #[.int .u64 0, .int .u64 0, .int .u8 0]
    simp only [World.size_alloc] at x5 x7 x8
    exact ⟨(((Box.made w 23 (arr A)).more _).more _).more _, (x5.more _).more _, x7.more _, x8, ((((Below.refl _ w).alloc (Nat.le_refl _) _).alloc (by simp) _).alloc (by simp; omega) _).alloc (by simp; omega) _⟩)
  have HT := Lib.hid (And.intro hT (And.intro hW (And.intro hc hA)))
  clear hT hW hc hA
  go_enter Tryd.func19, Tryd.ntmps19
  go_wp2
  go_step3
  go_wp2
  go_step3
  go_wp2
  go_loopw [9, 14] (fun a i wr => ∃ k : Nat, k ≤ 8 ∧ a = .int .i64 (-1) ∧ i = .int .i64 k ∧ Fd w wr A lo hi ∧ fst8 (entOf c A) lo hi = srch (entOf c A) lo hi (8 - k) k) (fun _ i _ => 8 - (intOf i).toNat)
  case atStart => exact ⟨0, Nat.zero_le _, rfl, rfl, HF.out, rfl⟩
  case round =>
    obtain ⟨k, hk, rfl, rfl, hfd, hsr⟩ := hrel
    have k1 : (0 : Int) ≤ (k : Int) := Int.natCast_nonneg _
    have HD := Lib.hid hfd
    have HS := Lib.hid hsr
    have r0 : wr.cell? ⟨w.heap.size, 0, none⟩ = some (.int .u64 (A 0)) := hfd.b4.read 0
    have r1 : wr.cell? ⟨w.heap.size, 1, none⟩ = some (.int .u64 (A 1)) := hfd.b4.read 1
    have r2 : wr.cell? ⟨w.heap.size, 2, none⟩ = some (.int .u64 (A 2)) := hfd.b4.read 2
    have r3 : wr.cell? ⟨w.heap.size, 3, none⟩ = some (.int .u64 (A 3)) := hfd.b4.read 3
    have r4 : wr.cell? ⟨w.heap.size, 4, none⟩ = some (.int .u64 (A 4)) := hfd.b4.read 4
    have r5 : wr.cell? ⟨w.heap.size, 5, none⟩ = some (.int .u64 (A 5)) := hfd.b4.read 5
    have r6 : wr.cell? ⟨w.heap.size, 6, none⟩ = some (.int .u64 (A 6)) := hfd.b4.read 6
    have r7 : wr.cell? ⟨w.heap.size, 7, none⟩ = some (.int .u64 (A 7)) := hfd.b4.read 7
    have HE1 := Lib.hid (fun wx (hb : Below w.heap.size w wx) (hk8 : k < 8) (h : entOf c A k = none) => entry_none HT.out.1 (HT.out.2.1.trans (hb.mono HT.out.2.1.size)) c A k HT.out.2.2.1 HT.out.2.2.2 hk8 h)
    have HE2 := Lib.hid (fun wx (hb : Below w.heap.size w wx) (hk8 : k < 8) (x : Ent) (h : entOf c A k = some x) => entry_some HT.out.1 (HT.out.2.1.trans (hb.mono HT.out.2.1.size)) c A k HT.out.2.2.1 HT.out.2.2.2 hk8 h)
    clear hfd hsr HF
    by_cases hlt : k < 8
    · have k2 : (k : Int) < 8 := by omega
      rw [srch_step hlt] at HS
      cases hE : entOf c A k with
      | none =>
        rw [hE] at HS
        have HC := Lib.hid (HE1.out wr HD.out.bel hlt hE)
        have HK := Lib.hid hlt
        clear hE HE1 HE2 hlt
        go_wp2_with (go_at_call 17; refine HC.out.mono ?_; rintro e w1 ⟨⟨f, l, b, rfl⟩, hb⟩; have H1 := Lib.hid (HD.out.over hb); clear hb)
        go_roundw
        case rel => exact ⟨k + 1, by have := HK.out; omega, rfl, by go_num, H1.out.over ((Below.refl _ w1).alloc (Nat.le_refl _) _), HS.out⟩
        case measure => simp [intOf]; have := HK.out; omega
      | some x =>
        rw [hE] at HS
        simp only at HS
        have HC := Lib.hid (HE2.out wr HD.out.bel hlt x hE)
        have HK := Lib.hid hlt
        clear hE HE1 HE2 hlt
        by_cases hh : hits x lo hi
        · rw [if_pos hh] at HS
          have hd : decide (x.f ≤ hi ∧ lo ≤ x.l) = true := decide_eq_true hh
          have HM := Lib.hid (fun wx => meets_any x.f x.l lo hi wx)
          rw [hd] at HM
          clear hd hh
          go_wp2_with (first
            | (go_at_call 17; refine HC.out.mono ?_; rintro e w1 ⟨rfl, hb⟩; have H1 := Lib.hid (HD.out.over hb); have H2 := Lib.hid (H1.out.over ((Below.refl _ w1).alloc (Nat.le_refl _) (.cells #[.int .u64 (x.f : Nat), .int .u64 (x.l : Nat), .int .u8 (x.b : Nat)] 45))); have H2b := Lib.hid (Box.made w1 45 #[.int .u64 (x.f : Nat), .int .u64 (x.l : Nat), .int .u8 (x.b : Nat)]); clear hb; have s0 := H2.out.b5.read 0; have s1 := H2.out.b5.read 1)
            | (go_at_call 22; refine (HM.out _).mono ?_; rintro e w3 ⟨rfl, hb⟩; have H3 := Lib.hid (H2.out.over hb); have H3b := Lib.hid (H2b.out.over hb H2b.out.inHeap); clear hb; have v0 := H3b.out.read 0; have v1 := H3b.out.read 1; have v2 := H3b.out.read 2; have g0 := H3.out.b8.read 0; have g1 := H3.out.b8.read 1; have g2 := H3.out.b8.read 2; have f0 := H3.out.b8.warm 0; have f1 := H3.out.b8.warm 1; have f2 := H3.out.b8.warm 2))
          obtain ⟨W4, hW4⟩ : ∃ W4, W4 = ((w3.setCell ⟨w.heap.size + 1 + 1 + 1, 0, none⟩ (.int .u64 (x.f : Nat))).setCell ⟨w.heap.size + 1 + 1 + 1, 1, none⟩ (.int .u64 (x.l : Nat))).setCell ⟨w.heap.size + 1 + 1 + 1, 2, none⟩ (.int .u8 (x.b : Nat)) := ⟨_, rfl⟩
          have B7 : Box W4 (w.heap.size + 1 + 1) 45 #[.int .u64 0, .int .u64 0, .int .u8 0] := by
            rw [hW4]
            exact ((H3.out.b7.putFar (p := ⟨w.heap.size + 1 + 1 + 1, 0, none⟩) (by show w.heap.size + 1 + 1 ≠ w.heap.size + 1 + 1 + 1; omega) _).putFar (p := ⟨w.heap.size + 1 + 1 + 1, 1, none⟩) (by show w.heap.size + 1 + 1 ≠ w.heap.size + 1 + 1 + 1; omega) _).putFar (p := ⟨w.heap.size + 1 + 1 + 1, 2, none⟩) (by show w.heap.size + 1 + 1 ≠ w.heap.size + 1 + 1 + 1; omega) _
          have B8 : Box W4 (w.heap.size + 1 + 1 + 1) 45 #[.int .u64 (x.f : Nat), .int .u64 (x.l : Nat), .int .u8 (x.b : Nat)] := by
            rw [hW4]
            exact box_eq (((H3.out.b8.put 0 _).put 1 _).put 2 _) rfl
          have BL : Below w.heap.size w W4 := by
            rw [hW4]
            exact ((H3.out.bel.setCell (p := ⟨w.heap.size + 1 + 1 + 1, 0, none⟩) (by show w.heap.size ≤ w.heap.size + 1 + 1 + 1; omega) _).setCell (p := ⟨w.heap.size + 1 + 1 + 1, 1, none⟩) (by show w.heap.size ≤ w.heap.size + 1 + 1 + 1; omega) _).setCell (p := ⟨w.heap.size + 1 + 1 + 1, 2, none⟩) (by show w.heap.size ≤ w.heap.size + 1 + 1 + 1; omega) _
          rw [← hW4]
          clear hW4 g0 g1 g2 f0 f1 f2 v0 v1 v2 s0 s1 r0 r1 r2 r3 r4 r5 r6 r7
          have b0 := B7.read 0
          have b1 := B7.read 1
          have b2 := B7.read 2
          have d0 := B7.warm 0
          have d1 := B7.warm 1
          have d2 := B7.warm 2
          have a0 := B8.read 0
          have a1 := B8.read 1
          have a2 := B8.read 2
          have HB := Lib.hid (And.intro B7 BL)
          clear B7 B8 BL
          go_region
          all_goals
            go_wp2
            rw [Exit.noGoto_ret]
            refine bodyPost_ret (ends19 (q := w.heap.size + 1 + 1) (box_eq (((HB.out.1.put 0 _).put 1 _).put 2 _).drawn1 rfl) _ rfl rfl) rfl ⟨?_, ((((HB.out.2).setCell (p := ⟨w.heap.size + 1 + 1, 0, none⟩) (by show w.heap.size ≤ w.heap.size + 1 + 1; omega) _).setCell (p := ⟨w.heap.size + 1 + 1, 1, none⟩) (by show w.heap.size ≤ w.heap.size + 1 + 1; omega) _).setCell (p := ⟨w.heap.size + 1 + 1, 2, none⟩) (by show w.heap.size ≤ w.heap.size + 1 + 1; omega) _).drew⟩
            rw [HS.out]
            rfl
        · rw [if_neg hh] at HS
          have hd : decide (x.f ≤ hi ∧ lo ≤ x.l) = false := decide_eq_false hh
          have HM := Lib.hid (fun wx => meets_any x.f x.l lo hi wx)
          rw [hd] at HM
          clear hd hh
          go_wp2_with (first
            | (go_at_call 17; refine HC.out.mono ?_; rintro e w1 ⟨rfl, hb⟩; have H1 := Lib.hid (HD.out.over hb); have H2 := Lib.hid (H1.out.over ((Below.refl _ w1).alloc (Nat.le_refl _) (.cells #[.int .u64 (x.f : Nat), .int .u64 (x.l : Nat), .int .u8 (x.b : Nat)] 45))); clear hb; have s0 := H2.out.b5.read 0; have s1 := H2.out.b5.read 1)
            | (go_at_call 22; refine (HM.out _).mono ?_; rintro e w3 ⟨rfl, hb⟩; have H3 := Lib.hid (H2.out.over hb); clear hb))
          go_roundw
          case rel => exact ⟨k + 1, by have := HK.out; omega, rfl, by go_num, H3.out, HS.out⟩
          case measure => simp [intOf]; have := HK.out; omega
    · obtain rfl : k = 8 := by omega
      clear HE1 HE2
      go_wp2
      have B7 := HD.out.b7
      have B8 := HD.out.b8
      have BL := HD.out.bel
      have b0 := B7.read 0
      have b1 := B7.read 1
      have b2 := B7.read 2
      have d0 := B7.warm 0
      have d1 := B7.warm 1
      have d2 := B7.warm 2
      have a0 := B8.read 0
      have a1 := B8.read 1
      have a2 := B8.read 2
      have HB := Lib.hid (And.intro B7 BL)
      clear B7 B8 BL
      go_region
      all_goals
        go_wp2
        rw [Exit.noGoto_ret]
        refine bodyPost_ret (ends19 (q := w.heap.size + 1 + 1) (box_eq (((HB.out.1.put 0 _).put 1 _).put 2 _).drawn1 rfl) _ rfl rfl) rfl ⟨?_, ((((HB.out.2).setCell (p := ⟨w.heap.size + 1 + 1, 0, none⟩) (by show w.heap.size ≤ w.heap.size + 1 + 1; omega) _).setCell (p := ⟨w.heap.size + 1 + 1, 1, none⟩) (by show w.heap.size ≤ w.heap.size + 1 + 1; omega) _).setCell (p := ⟨w.heap.size + 1 + 1, 2, none⟩) (by show w.heap.size ≤ w.heap.size + 1 + 1; omega) _).drew⟩
        rw [HS.out]
        rfl
end Go.Proofs.YtcgklflflfemnaaDoor
