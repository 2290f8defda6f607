/- Some of the chapter's answers. -/
import Derived.Test.YtnfnhhphoiebbaaDoorGj
set_option linter.unusedVariables false
set_option linter.unusedSimpArgs false
namespace Go.Proofs.YtnfnhhphoiebbaaDoor
open Go.RowKit
def Yes (w : World) (e : Ending) (w' : World) : Prop := e = .returned (.bool true) ∧ Below w.heap.size w w'
def L4 : List Win := [(0, 2), (1, 1), (255, 1), (0, 1)]
theorem chk4 : chk 2 L4 = 0 := by
  have h1 : scan 2 0 L4 = 0 := by decide
  have h2 : ¬ lack 2 L4 := fun ⟨g, hg, h⟩ => by
    have h3 := h (0, 2) (by simp [L4])
    have h4 := h (1, 1) (by simp [L4])
    simp only at h3 h4
    omega
  unfold chk
  rw [if_neg (by omega), if_neg (by decide), if_neg (by decide), if_neg (by rw [h1]; simp), if_neg h2]
theorem given_any (w : World) : Calls Tryd.prog 20 #[] w fun e w' => e = .returned (.slice (some ⟨w.heap.size, 0, none⟩) 4 4) ∧ w' = w.alloc (.cells #[.int .u8 0, .int .u16 2, .int .u8 1, .int .u16 1, .int .u8 255, .int .u16 1, .int .u8 0, .int .u16 1] 51) := by
  go_enter Tryd.func20, Tryd.ntmps20
  go_wp2
  go_ret
  exact ⟨rfl, rfl⟩
theorem given_wins (w : World) : IsWins (w.alloc (.cells #[.int .u8 0, .int .u16 2, .int .u8 1, .int .u16 1, .int .u8 255, .int .u16 1, .int .u8 0, .int .u16 1] 51)) (some ⟨w.heap.size, 0, none⟩) 4 L4 := by
  have hb := Box.made w 51 #[.int .u8 0, .int .u16 2, .int .u8 1, .int .u16 1, .int .u8 255, .int .u16 1, .int .u8 0, .int .u16 1]
  refine ⟨rfl, fun k f hk => ⟨w.heap.size, 0, rfl, hb.inHeap, ?_⟩⟩
  rcases k with _ | _ | _ | _ | k
  · obtain rfl := (Option.some.inj hk).symm
    exact ⟨(hb.read 0).trans rfl, (hb.read 1).trans rfl, by decide, by decide⟩
  · obtain rfl := (Option.some.inj hk).symm
    exact ⟨(hb.read 2).trans rfl, (hb.read 3).trans rfl, by decide, by decide⟩
  · obtain rfl := (Option.some.inj hk).symm
    exact ⟨(hb.read 4).trans rfl, (hb.read 5).trans rfl, by decide, by decide⟩
  · obtain rfl := (Option.some.inj hk).symm
    exact ⟨(hb.read 6).trans rfl, (hb.read 7).trans rfl, by decide, by decide⟩
  · simp [L4] at hk
section
variable {w : World} {p wb wc bb bo bc : Nat} {l : List Win}
theorem length_to (hq : Tb w p wb wc bb bo bc l) (v : Int) (hv : v = (tot l : Nat)) : Calls Tryd.prog 9 #[.pointer (some ⟨p, 0, none⟩)] w fun e w' => e = .returned (.int .u64 v) ∧ w = w' := by
  subst hv
  exact length_any hq
theorem budget_to (hq : Tb w p wb wc bb bo bc l) (g : Nat) (hg : g < 256) (G : Int) (hG : G = (g : Nat)) (v : Int) (hv : v = (cnt l g : Nat)) : Calls Tryd.prog 15 #[.pointer (some ⟨p, 0, none⟩), .int .u8 G] w fun e w' => e = .returned (.int .u64 v) ∧ Below w.heap.size w w' := by
  subst hv hG
  exact budget_any hq g hg
theorem owner_to (hq : Tb w p wb wc bb bo bc l) (s : Nat) (hs : s < 18446744073709551616) (z : Int) (hz : z = (s : Nat)) (v : Int) (hv : v = ((fr l).getD (s % tot l) 0 : Nat)) : Calls Tryd.prog 14 #[.pointer (some ⟨p, 0, none⟩), .int .u64 z] w fun e w' => e = .returned (.int .u8 v) ∧ Below w.heap.size w w' := by
  subst hv hz
  exact owner_any hq s hs
theorem owned_to (hq : Tb w p wb wc bb bo bc l) (g s : Nat) (hg : g < 256) (hs : s < 18446744073709551616) (G z : Int) (hG : G = (g : Nat)) (hz : z = (s : Nat)) (v : Int) (hv : v = (owd l g s : Nat)) : Calls Tryd.prog 17 #[.pointer (some ⟨p, 0, none⟩), .int .u8 G, .int .u64 z] w fun e w' => e = .returned (.int .u64 v) ∧ Below w.heap.size w w' := by
  subst hv hz hG
  exact owned_all hq g s hg hs
end
theorem nx4 : NxA L4 1 3 (.tuple #[.int .u64 7, .bool true]) := by
  refine .inr ⟨4, ⟨by decide, by decide, fun j hj => ?_⟩, .inl ⟨by decide, rfl⟩⟩
  rcases j with _ | _ | _ | _ | j
  · decide
  · decide
  · decide
  · decide
  · omega
theorem asks_any {w : World} {p wb wc bb bo bc : Nat} (hq : Tb w p wb wc bb bo bc L4) : Calls Tryd.prog 21 #[.pointer (some ⟨p, 0, none⟩), .int .u8 1, .int .u64 3, .int .u64 7] w (Yes w) := by
  have h : Calls Tryd.prog 12 #[.pointer (some ⟨p, 0, none⟩), .int .u8 1, .int .u64 3] w fun e w' => e = .returned (.tuple #[.int .u64 7, .bool true]) ∧ Below w.heap.size w w' :=
    (next_all hq (by decide) 1 3 (by decide) (by decide)).mono fun e w' ⟨v, h1, h2, h3⟩ => ⟨by rw [h2, NxA.one (by decide) h1 nx4], h3⟩
  have HN := Lib.hid h
  clear h hq
  go_enter Tryd.func21, Tryd.ntmps21
  go_wp2_with (go_at_call 12; refine HN.out.mono ?_; rintro e w' ⟨rfl, hb⟩)
  go_ret
  exact ⟨rfl, hb⟩
/-- The chapter's answers hold. -/
theorem awake_any (w : World) : Calls Tryd.prog 6 #[] w (Yes w) := by
  have hb0 : Below w.heap.size w (w.alloc (.cells #[.int .u8 0, .int .u16 2, .int .u8 1, .int .u16 1, .int .u8 255, .int .u16 1, .int .u8 0, .int .u16 1] 51)) := (Below.refl _ w).alloc (Nat.le_refl _) _
  have HN := Lib.hid (new_ok 2 w.heap.size 0 4 4 L4 _ (by decide) (by decide) (given_wins w) chk4)
  have HB0 := Lib.hid hb0
  have hb : ∀ (k : Nat) (f : Win), L4[k]? = some f → f.1 < 256 ∧ f.2 < 65536 := fun k f hk => (win_at (given_wins w) hk).1
  have HB := Lib.hid hb
  clear hb hb0
  go_enter Tryd.func6, Tryd.ntmps6
  go_wp2_with fail
  refine (given_any w).mono ?_
  rintro e w' ⟨rfl, rfl⟩
  go_wp2_with fail
  refine HN.out.mono ?_
  rintro e w2 ⟨p, wv, bv, rfl, hnw⟩
  have H2 := Lib.hid (HB0.out.trans (hnw.bel.mono HB0.out.size))
  obtain ⟨wb, wc, bb, bo, bc, hT⟩ := tb_of hnw (chk_good chk4) HB.out
  have T2 := Lib.hid hT
  clear hnw hT HN HB
  go_wp2_with fail
  refine (length_to T2.out 5 (by decide)).mono ?_
  rintro e w' ⟨rfl, rfl⟩
  go_wp2_with fail
  refine (budget_to T2.out 0 (by decide) 0 rfl 3 (by decide)).mono ?_
  rintro e w3 ⟨rfl, h3⟩
  have T3 := Lib.hid (T2.out.over h3 (Nat.le_refl _))
  have H3 := Lib.hid (H2.out.trans (h3.mono H2.out.size))
  clear h3
  go_wp2_with fail
  refine (owner_to T3.out 2 (by decide) 2 rfl 1 (by decide)).mono ?_
  rintro e w4 ⟨rfl, h4⟩
  have T4 := Lib.hid (T3.out.over h4 (Nat.le_refl _))
  have H4 := Lib.hid (H3.out.trans (h4.mono H3.out.size))
  clear h4
  go_wp2_with fail
  refine (owner_to T4.out 3 (by decide) 3 rfl 255 (by decide)).mono ?_
  rintro e w5 ⟨rfl, h5⟩
  have T5 := Lib.hid (T4.out.over h5 (Nat.le_refl _))
  have H5 := Lib.hid (H4.out.trans (h5.mono H4.out.size))
  clear h5
  go_wp2_with fail
  refine (owned_to T5.out 0 12 (by decide) (by decide) 0 12 rfl rfl 8 (by decide)).mono ?_
  rintro e w6 ⟨rfl, h6⟩
  have T6 := Lib.hid (T5.out.over h6 (Nat.le_refl _))
  have H6 := Lib.hid (H5.out.trans (h6.mono H5.out.size))
  clear h6
  go_wp2_with fail
  refine (asks_any T6.out).mono ?_
  rintro e w7 ⟨rfl, h7⟩
  have H7 := Lib.hid (H6.out.trans (h7.mono H6.out.size))
  clear h7
  go_wp2_with fail
  go_ret
  exact ⟨rfl, H7.out⟩
end Go.Proofs.YtnfnhhphoiebbaaDoor
