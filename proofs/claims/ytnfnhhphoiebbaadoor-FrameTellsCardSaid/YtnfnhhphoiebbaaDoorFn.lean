/- FrameBudgets: counts of 256 guests, and their sum (lists alone); a table out of New. -/
import Derived.Test.YtnfnhhphoiebbaaDoorFm
set_option linter.unusedVariables false
set_option linter.unusedSimpArgs false
namespace Go.Proofs.YtnfnhhphoiebbaaDoor
open Go.RowKit
theorem begs_at : ∀ (s : Nat) (l : List Win) (k : Nat) (f : Win), l[k]? = some f → (begs s l)[k]? = some (s + tot (l.take k))
  | s, [], k, f, h => by simp at h
  | s, w :: r, 0, f, h => by simp [begs, tot]
  | s, w :: r, k + 1, f, h => by
    simp only [begs, List.getElem?_cons_succ, List.take_succ_cons, tot]
    rw [begs_at _ r k f (by simpa using h)]
    congr 1
    omega
theorem tb_of {w w' : World} {p : Nat} {l : List Win} {wv bv : Value} {G : Int} (h : Nw w w' p l (bvals l) (tot l) wv bv) (hg : Good G l) (hb : ∀ (k : Nat) (f : Win), l[k]? = some f → f.1 < 256 ∧ f.2 < 65536) : ∃ wb wc bb bo bc, Tb w' p wb wc bb bo bc l := by
  have hn := hg.n1
  obtain ⟨h1, h2⟩ := h.own
  rcases h2 with ⟨_, h0⟩ | ⟨g, cap, cur, rfl, hge, hh, hc1, hc2, hc3, ht⟩
  · omega
  · rcases h.lane with ⟨_, h0⟩ | ⟨g2, off, cap2, cur2, rfl, hb2, l1, l2, l3, l4⟩
    · have := bvals_len l
      rw [h0] at this
      simp at this
      omega
    · have hbx := h.box
      rw [bvals_len] at hbx
      refine ⟨g, cap, g2, off, cap2, hbx, ⟨cur, hh, fun k f hk => ?_⟩, ⟨cur2, hb2, fun k f hk => ?_⟩, hg.pos, hg.top, hg.n2, hb⟩
      · have hkl := (List.getElem?_eq_some_iff.1 hk).1
        obtain ⟨c0, c1⟩ := wcells_at l k f hk
        rw [← ht, List.getElem?_take] at c0 c1
        rw [if_pos (by omega), Array.getElem?_toList] at c0 c1
        exact ⟨c0, c1⟩
      · refine l4 k _ ?_
        unfold bvals
        rw [List.getElem?_map, begs_at 0 l k f hk, Nat.zero_add]
        rfl
end Go.Proofs.YtnfnhhphoiebbaaDoor
