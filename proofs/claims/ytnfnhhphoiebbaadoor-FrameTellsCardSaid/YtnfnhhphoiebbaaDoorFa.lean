/- Windows, as a list: whose a step is, how many are a guest's, which is the next one (lists alone). -/
import Derived.Test.YtnfnhhphoiebbaaDoorBx
set_option linter.unusedVariables false
set_option linter.unusedSimpArgs false
namespace Go.Proofs.YtnfnhhphoiebbaaDoor
/-- A window: whose, and how many steps. -/
abbrev Win := Nat × Nat
def tot : List Win → Nat
  | [] => 0
  | w :: r => w.2 + tot r
theorem tot_app : ∀ (l m : List Win), tot (l ++ m) = tot l + tot m
  | [], m => by simp [tot]
  | w :: l, m => by simp [tot, tot_app l m]; omega
/-- The frame, step by step. -/
def fr : List Win → List Nat
  | [] => []
  | w :: r => List.replicate w.2 w.1 ++ fr r
theorem fr_len : ∀ l : List Win, (fr l).length = tot l
  | [] => rfl
  | w :: r => by simp [fr, tot, fr_len r]
theorem fr_app : ∀ (l m : List Win), fr (l ++ m) = fr l ++ fr m
  | [], m => rfl
  | w :: l, m => by simp [fr, fr_app l m]
theorem fr_mem {g : Nat} : ∀ {l : List Win}, g ∈ fr l → ∃ w ∈ l, w.1 = g
  | [], h => by simp [fr] at h
  | w :: r, h => by
    unfold fr at h
    rcases List.mem_append.1 h with h | h
    · exact ⟨w, List.mem_cons_self, (List.mem_replicate.1 h).2.symm⟩
    · obtain ⟨v, hv, e⟩ := fr_mem h
      exact ⟨v, List.mem_cons_of_mem _ hv, e⟩
theorem mem_fr {l : List Win} {w : Win} (h : w ∈ l) (hp : 0 < w.2) : w.1 ∈ fr l := by
  induction l with
  | nil => simp at h
  | cons v r ih =>
    unfold fr
    rcases List.mem_cons.1 h with rfl | h
    · exact List.mem_append_left _ (List.mem_replicate.2 ⟨by omega, rfl⟩)
    · exact List.mem_append_right _ (ih h)
/-- Whose a place is, as it is looked for. -/
def ownF : List Win → Nat → Nat → Nat → Nat
  | [], at', p, cur => cur
  | w :: r, at', p, cur => if p < at' then cur else ownF r (at' + w.2) p w.1
theorem ownF_past : ∀ (l : List Win) (at' p cur : Nat), p < at' → ownF l at' p cur = cur
  | [], _, _, _, _ => rfl
  | w :: r, at', p, cur, h => by unfold ownF; rw [if_pos h]
theorem ownF_at : ∀ (l : List Win) (at' p cur : Nat), at' ≤ p → p < at' + tot l → ownF l at' p cur = (fr l).getD (p - at') 0
  | [], at', p, cur, h1, h2 => by simp [tot] at h2; omega
  | w :: r, at', p, cur, h1, h2 => by
    unfold ownF
    rw [if_neg (by omega)]
    unfold fr
    rw [List.getD_eq_getElem?_getD]
    by_cases h : p < at' + w.2
    · rw [ownF_past r _ _ _ h, List.getElem?_append_left (by simp; omega), List.getElem?_replicate, if_pos (by omega)]
      rfl
    · simp only [tot] at h2
      rw [ownF_at r _ _ _ (by omega) (by omega), List.getElem?_append_right (by simp; omega), List.length_replicate, List.getD_eq_getElem?_getD]
      congr 2
      omega
/-- How many places ahead of one are a guest's, as it is reckoned. -/
def aheadF (g : Nat) : List Win → Nat → Nat → Nat → Nat
  | [], at', p, n => n
  | w :: r, at', p, n => aheadF g r (at' + w.2) p (if w.1 = g ∧ at' < p then n + min w.2 (p - at') else n)
theorem aheadF_eq (g : Nat) : ∀ (l : List Win) (at' p n : Nat), aheadF g l at' p n = n + ((fr l).take (p - at')).count g
  | [], at', p, n => by simp [aheadF, fr]
  | w :: r, at', p, n => by
    have hf : fr (w :: r) = List.replicate w.2 w.1 ++ fr r := rfl
    unfold aheadF
    rw [aheadF_eq g r, hf, List.take_append, List.count_append, List.take_replicate, List.length_replicate, List.count_replicate]
    have e : p - (at' + w.2) = p - at' - w.2 := by omega
    rw [e]
    by_cases hg : w.1 = g
    · have hb : (w.1 == g) = true := by simpa using hg
      rw [hb, if_pos rfl]
      by_cases hp : at' < p
      · rw [if_pos ⟨hg, hp⟩, Nat.min_comm]; omega
      · rw [if_neg (fun h => hp h.2)]
        have : p - at' = 0 := by omega
        rw [this]
        simp
    · have hb : (w.1 == g) = false := by simpa using hg
      rw [hb, if_neg (fun h => hg h.1), if_neg (by decide)]
      omega
def cnt (l : List Win) (g : Nat) : Nat := (fr l).count g
def ahd (l : List Win) (g p : Nat) : Nat := ((fr l).take p).count g
theorem ahd_zero (l : List Win) (g : Nat) : ahd l g 0 = 0 := by simp [ahd]
theorem ahd_all (l : List Win) (g : Nat) : ahd l g (tot l) = cnt l g := by unfold ahd cnt; rw [← fr_len, List.take_length]
theorem ahd_le (l : List Win) (g p : Nat) : ahd l g p ≤ cnt l g := (List.take_sublist p (fr l)).count_le g
theorem ahd_lep (l : List Win) (g p : Nat) : ahd l g p ≤ p := by
  unfold ahd
  refine Nat.le_trans List.count_le_length ?_
  rw [List.length_take]
  exact Nat.min_le_left _ _
theorem cnt_le (l : List Win) (g : Nat) : cnt l g ≤ tot l := by rw [← fr_len]; exact List.count_le_length
theorem ahd_step (l : List Win) (g p : Nat) (h : p < tot l) : ahd l g (p + 1) = ahd l g p + if (fr l).getD p 0 = g then 1 else 0 := by
  unfold ahd
  have hl : p < (fr l).length := by rw [fr_len]; exact h
  rw [List.take_add_one, List.getElem?_eq_getElem hl, List.count_append, List.getD_eq_getElem?_getD, List.getElem?_eq_getElem hl]
  simp [List.count_cons, List.count_nil]
/-- How far a guest's first place from one on is, as it is looked for. -/
def awayF (g : Nat) : List Win → Nat → Nat → Option Nat
  | [], at', p => none
  | w :: r, at', p => if w.1 = g ∧ p < at' + w.2 then some (max at' p - p) else awayF g r (at' + w.2) p
theorem awayF_none (g : Nat) : ∀ (l : List Win) (at' p : Nat), awayF g l at' p = none → ∀ k, p ≤ k → at' ≤ k → k < at' + tot l → (fr l).getD (k - at') 0 ≠ g
  | [], at', p, _, k, _, h2, h3 => by simp [tot] at h3; omega
  | w :: r, at', p, h, k, h1, h2, h3 => by
    unfold awayF at h
    split at h
    · cases h
    · rename_i hc
      unfold fr
      rw [List.getD_eq_getElem?_getD]
      by_cases hk : k < at' + w.2
      · rw [List.getElem?_append_left (by simp; omega), List.getElem?_replicate, if_pos (by omega)]
        intro e
        exact hc ⟨e, by omega⟩
      · simp only [tot] at h3
        have ih := awayF_none g r _ p h k h1 (by omega) (by omega)
        rw [List.getElem?_append_right (by simp; omega), List.length_replicate, ← List.getD_eq_getElem?_getD]
        rwa [show k - (at' + w.2) = k - at' - w.2 by omega] at ih
theorem awayF_some (g : Nat) : ∀ (l : List Win) (at' p d : Nat), (∀ w ∈ l, 0 < w.2) → awayF g l at' p = some d → at' ≤ p + d ∧ p + d < at' + tot l ∧ (fr l).getD (p + d - at') 0 = g ∧ ∀ k, p ≤ k → at' ≤ k → k < p + d → (fr l).getD (k - at') 0 ≠ g
  | [], at', p, d, _, h => by simp [awayF] at h
  | w :: r, at', p, d, hp, h => by
    have hw := hp w List.mem_cons_self
    unfold awayF at h
    split at h
    · rename_i hc
      simp only [Option.some.injEq] at h
      have hd : p + d = max at' p := by omega
      refine ⟨by omega, by simp only [tot]; omega, ?_, fun k h1 h2 h3 => by omega⟩
      unfold fr
      rw [List.getD_eq_getElem?_getD, List.getElem?_append_left (by simp; omega), List.getElem?_replicate, if_pos (by omega)]
      exact hc.1
    · rename_i hc
      obtain ⟨a1, a2, a3, a4⟩ := awayF_some g r _ p d (fun v hv => hp v (List.mem_cons_of_mem _ hv)) h
      refine ⟨by omega, by simp only [tot]; omega, ?_, fun k h1 h2 h3 => ?_⟩
      · unfold fr
        rw [List.getD_eq_getElem?_getD, List.getElem?_append_right (by simp; omega), List.length_replicate, ← List.getD_eq_getElem?_getD]
        rwa [show p + d - (at' + w.2) = p + d - at' - w.2 by omega] at a3
      · unfold fr
        rw [List.getD_eq_getElem?_getD]
        by_cases hk : k < at' + w.2
        · rw [List.getElem?_append_left (by simp; omega), List.getElem?_replicate, if_pos (by omega)]
          intro e
          exact hc ⟨e, by omega⟩
        · have := a4 k h1 (by omega) h3
          rw [List.getElem?_append_right (by simp; omega), List.length_replicate, ← List.getD_eq_getElem?_getD]
          rwa [show k - (at' + w.2) = k - at' - w.2 by omega] at this
theorem awayF_has {g : Nat} {l : List Win} (h : 0 < cnt l g) : ∃ d, awayF g l 0 0 = some d := by
  cases hd : awayF g l 0 0 with
  | some d => exact ⟨d, rfl⟩
  | none =>
    have hn := awayF_none g l 0 0 hd
    unfold cnt at h
    obtain ⟨k, hk⟩ := List.mem_iff_getElem?.1 (List.count_pos_iff.1 h)
    have hkl := (List.getElem?_eq_some_iff.1 hk).1
    rw [fr_len] at hkl
    have := hn k (Nat.zero_le _) (Nat.zero_le _) (by omega)
    rw [Nat.sub_zero, List.getD_eq_getElem?_getD, hk] at this
    exact absurd rfl this
/-- What Check tells. -/
def scan (G : Int) : Nat → List Win → Nat
  | s, [] => 0
  | s, w :: r => if w.1 ≠ 255 ∧ G ≤ (w.1 : Int) then 6 else if w.2 = 0 then 2 else if 1024 < s + w.2 then 5 else scan G (s + w.2) r
def lack (G : Int) (l : List Win) : Prop := ∃ g : Nat, (g : Int) < G ∧ ∀ w ∈ l, w.1 ≠ g
open Classical in
noncomputable def chk (G : Int) (l : List Win) : Nat := if G < 1 ∨ 16 < G then 2 else if l.length = 0 then 11 else if 32 < l.length then 5 else if scan G 0 l ≠ 0 then scan G 0 l else if lack G l then 11 else 0
theorem scan_zero {G : Int} : ∀ {l : List Win} {s : Nat}, s ≤ 1024 → scan G s l = 0 → (∀ w ∈ l, (w.1 = 255 ∨ (w.1 : Int) < G) ∧ 0 < w.2) ∧ s + tot l ≤ 1024
  | [], s, hs, h => ⟨fun w hw => by simp at hw, by simp [tot]; exact hs⟩
  | w :: r, s, hs, h => by
    unfold scan at h
    split at h
    · cases h
    · rename_i h1
      split at h
      · cases h
      · rename_i h2
        split at h
        · cases h
        · rename_i h3
          obtain ⟨a, b⟩ := scan_zero (by omega) h
          refine ⟨fun v hv => ?_, by simp only [tot]; omega⟩
          rcases List.mem_cons.1 hv with rfl | hv
          · refine ⟨?_, by omega⟩
            by_cases e : v.1 = 255
            · exact .inl e
            · right
              by_cases h4 : (v.1 : Int) < G
              · exact h4
              · exact absurd ⟨e, by omega⟩ h1
          · exact a v hv
/-- A table's windows. -/
structure Good (G : Int) (l : List Win) : Prop where
  g1 : 1 ≤ G
  g2 : G ≤ 16
  n1 : 0 < l.length
  n2 : l.length ≤ 32
  ok : ∀ w ∈ l, (w.1 = 255 ∨ (w.1 : Int) < G) ∧ 0 < w.2
  top : tot l ≤ 1024
  all : ∀ g : Nat, (g : Int) < G → ∃ w ∈ l, w.1 = g
theorem chk_good {G : Int} {l : List Win} (h : chk G l = 0) : Good G l := by
  unfold chk at h
  split at h
  · cases h
  · rename_i h1
    split at h
    · cases h
    · rename_i h2
      split at h
      · cases h
      · rename_i h3
        split at h
        · rename_i h4
          exact absurd h h4
        · rename_i h4
          split at h
          · cases h
          · rename_i h5
            have h4 : scan G 0 l = 0 := by
              by_cases e : scan G 0 l = 0
              · exact e
              · exact absurd e h4
            obtain ⟨a, b⟩ := scan_zero (Nat.zero_le _) h4
            refine ⟨by omega, by omega, by omega, by omega, a, by omega, fun g hg => ?_⟩
            by_cases hc : ∃ w ∈ l, w.1 = g
            · exact hc
            · exact absurd ⟨g, hg, fun w hw e => hc ⟨w, hw, e⟩⟩ h5
theorem Good.pos {G : Int} {l : List Win} (h : Good G l) : 0 < tot l := by
  obtain ⟨w, r, rfl⟩ : ∃ w r, l = w :: r := by
    cases l with
    | nil => exact absurd h.n1 (by simp)
    | cons w r => exact ⟨w, r, rfl⟩
  have := (h.ok w List.mem_cons_self).2
  simp only [tot]
  omega
theorem Good.has {G : Int} {l : List Win} (h : Good G l) {g : Nat} (hg : (g : Int) < G) : 0 < cnt l g := by
  obtain ⟨w, hw, rfl⟩ := h.all g hg
  exact List.count_pos_iff.2 (mem_fr hw (h.ok w hw).2)
theorem Good.none {G : Int} {l : List Win} (h : Good G l) {g : Nat} (h1 : ¬ (g : Int) < G) (h2 : g ≠ 255) : cnt l g = 0 := by
  unfold cnt
  rw [List.count_eq_zero]
  intro hm
  obtain ⟨w, hw, rfl⟩ := fr_mem hm
  rcases (h.ok w hw).1 with h3 | h3
  · exact h2 h3
  · exact h1 h3
end Go.Proofs.YtnfnhhphoiebbaaDoor
