/- FrameBudgets: counts of 256 guests, and their sum (lists alone); a table out of New. -/
import Derived.Test.YtnfnhhphoiebbaaFm
set_option linter.unusedVariables false
set_option linter.unusedSimpArgs false
namespace Go.Proofs.Ytnfnhhphoiebbaa
open Go.RowKit
theorem wpList_alloc_to {P : Program} {ops : Array Oper} {rest : List Oper} {o : Oper} {a : Act} {w : World} {Q : Exit → Act → World → Prop} (hg : o.guard = none) (t : TypeId) (ho : o.op = .alloc t)
    (cells : Array Value) (hc : ∀ w : World, (Instr.alloc t true (.tuple #[])).run P w = .ok (.pointer (some ⟨w.heap.size, 0, none⟩)) (w.alloc (.cells cells t)))
    (n : Nat) (hn : w.heap.size = n) (h : wpList P ops Q rest (a.put o.dst (.pointer (some ⟨n, 0, none⟩))) (w.alloc (.cells cells t))) : wpList P ops Q (o :: rest) a w :=
  wpList_plain hg fun _ hK => by
    subst hn
    unfold Oper.wp execOp
    simp only [ho, Sem.run_bind, Sem.run_pure, Result.andThen_ok, hc w]
    exact hK _ _ h
/-- 256 counts. -/
def cntA (F : Nat → Nat) : Array Value := ((List.range 256).map fun k => Value.int .u64 (F k)).toArray
theorem cntA_at (F : Nat → Nat) (k : Nat) (h : k < 256) : (cntA F)[k]? = some (.int .u64 (F k)) := by
  unfold cntA
  rw [List.getElem?_toArray, List.getElem?_map, List.getElem?_range h]
  rfl
theorem cntA_set (F F' : Nat → Nat) (k : Nat) (v : Int) (hv : v = F' k) (ho : ∀ i, i ≠ k → F' i = F i) : (cntA F).setIfInBounds k (.int .u64 v) = cntA F' := by
  unfold cntA
  rw [List.setIfInBounds_toArray]
  congr 1
  apply List.ext_getElem
  · simp
  · intro i h1 h2
    simp only [List.getElem_set, List.getElem_map, List.getElem_range]
    split
    · rename_i e
      subst e
      rw [hv]
    · rename_i e
      rw [ho i (fun h => e h.symm)]
theorem alloc_c (w : World) : (Instr.alloc 33 true (.tuple #[])).run Try.prog w = .ok (.pointer (some ⟨w.heap.size, 0, none⟩)) (w.alloc (.cells (cntA fun _ => 0) 33)) := by kernel_rfl
def sm (F : Nat → Nat) : Nat → Nat
  | 0 => 0
  | k + 1 => sm F k + F k
theorem sm_zero : ∀ n, sm (fun _ => 0) n = 0
  | 0 => rfl
  | n + 1 => by simp [sm, sm_zero n]
theorem sm_add (F G : Nat → Nat) : ∀ n, sm (fun i => F i + G i) n = sm F n + sm G n
  | 0 => rfl
  | n + 1 => by simp only [sm]; rw [sm_add F G n]; omega
theorem sm_one (x : Nat) : ∀ n, sm (fun i => if x = i then 1 else 0) n = if x < n then 1 else 0
  | 0 => by simp [sm]
  | n + 1 => by
    simp only [sm]
    rw [sm_one x n]
    split <;> split <;> split <;> omega
theorem sm_congr {F G : Nat → Nat} : ∀ n, (∀ i, i < n → F i = G i) → sm F n = sm G n
  | 0, _ => rfl
  | n + 1, h => by simp only [sm]; rw [sm_congr n (fun i hi => h i (by omega)), h n (by omega)]
theorem sm_count : ∀ (L : List Nat) (n : Nat), (∀ x ∈ L, x < n) → sm (fun i => L.count i) n = L.length
  | [], n, _ => by simp only [List.count_nil]; exact sm_zero n
  | x :: L, n, h => by
    have e : ∀ i, (x :: L).count i = L.count i + (if x = i then 1 else 0) := fun i => by simp [List.count_cons]
    rw [sm_congr n (fun i _ => e i), sm_add, sm_one, sm_count L n (fun y hy => h y (List.mem_cons_of_mem _ hy)), if_pos (h x List.mem_cons_self)]
    rfl
theorem sm_mono (F : Nat → Nat) : ∀ (j k : Nat), sm F k ≤ sm F (k + j)
  | 0, k => Nat.le_refl _
  | j + 1, k => by have := sm_mono F j k; rw [← Nat.add_assoc]; simp only [sm]; omega
theorem sm_ge (F : Nat → Nat) (n : Nat) (h : ∀ i, i < n → 1 ≤ F i) : ∀ k, k ≤ n → k ≤ sm F k
  | 0, _ => Nat.zero_le _
  | k + 1, hk => by have h1 := sm_ge F n h k (by omega); have h2 := h k (by omega); simp only [sm]; omega
theorem sm_tot {l : List Win} (hb : ∀ v ∈ l, v.1 < 256) : sm (cnt l) 256 = tot l := by
  have h1 := sm_count (fr l) 256 (fun x hx => by
    obtain ⟨v, hv, rfl⟩ := fr_mem hx
    exact hb v hv)
  rw [fr_len] at h1
  exact h1
theorem sm_guests {G : Int} {l : List Win} (hg : Good G l) {gn : Nat} (hn : (gn : Int) = G) : gn ≤ sm (cnt l) 256 := by
  have h1 := sm_ge (cnt l) gn (fun i hi => hg.has (by omega)) gn (Nat.le_refl _)
  have h2 := sm_mono (cnt l) (256 - gn) gn
  have := hg.g2
  rw [show gn + (256 - gn) = 256 by omega] at h2
  omega
theorem begs_at : ∀ (s : Nat) (l : List Win) (k : Nat) (f : Win), l[k]? = some f → (begs s l)[k]? = some (s + tot (l.take k))
  | s, [], k, f, h => by simp at h
  | s, w :: r, 0, f, h => by simp [begs, tot]
  | s, w :: r, k + 1, f, h => by
    simp only [begs, List.getElem?_cons_succ, List.take_succ_cons, tot]
    rw [begs_at _ r k f (by simpa using h)]
    congr 1
    omega
theorem tb_of {w w' : World} {p : Nat} {l : List Win} {wv bv : Value} {G : Int} (h : Nw w w' p l (bvals l) (tot l) wv bv) (hg : Good G l) (hb : ∀ (k : Nat) (f : Win), l[k]? = some f → f.1 < 256 ∧ f.2 < 65536) : ∃ wb wc bb bo bc, Tb w' p wb wc bb bo bc l := by
  have hn := hg.n1
  obtain ⟨h1, h2⟩ := h.own
  rcases h2 with ⟨_, h0⟩ | ⟨g, cap, cur, rfl, hge, hh, hc1, hc2, hc3, ht⟩
  · omega
  · rcases h.lane with ⟨_, h0⟩ | ⟨g2, off, cap2, cur2, rfl, hb2, l1, l2, l3, l4⟩
    · have := bvals_len l
      rw [h0] at this
      simp at this
      omega
    · have hbx := h.box
      rw [bvals_len] at hbx
      refine ⟨g, cap, g2, off, cap2, hbx, ⟨cur, hh, fun k f hk => ?_⟩, ⟨cur2, hb2, fun k f hk => ?_⟩, hg.pos, hg.top, hg.n2, hb⟩
      · have hkl := (List.getElem?_eq_some_iff.1 hk).1
        obtain ⟨c0, c1⟩ := wcells_at l k f hk
        rw [← ht, List.getElem?_take] at c0 c1
        rw [if_pos (by omega), Array.getElem?_toList] at c0 c1
        exact ⟨c0, c1⟩
      · refine l4 k _ ?_
        unfold bvals
        rw [List.getElem?_map, begs_at 0 l k f hk, Nat.zero_add]
        rfl
end Go.Proofs.Ytnfnhhphoiebbaa
