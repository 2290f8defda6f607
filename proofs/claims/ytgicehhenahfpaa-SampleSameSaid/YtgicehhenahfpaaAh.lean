/- Two pairs side by side. -/
import Derived.Test.YtgicehhenahfpaaAf
import Derived.Test.YtgicehhenahfpaaAg
set_option linter.unusedVariables false
set_option linter.unusedSimpArgs false
namespace Go.Proofs.Ytgicehhenahfpaa
open Go.RowKit
attribute [local go_sem] Oper.semAt_some
section
variable {m v m' v' : Int} {n n' c c' B C H B' C' H' : Nat} {w : World} {o o' : Option (Nat × ByteArray × List Int)}
/-- The document's Same answers as the program's. -/
theorem dsame_any (h : Dc w B H m v n c o) (h' : Dc w C H' m' v' n' c' o') (hc : c ≤ 1048576) (hc' : c' ≤ 1048576) (hn : n ≤ 16) (ho : okO o) (ho' : okO o') :
    Calls Try.prog 12 #[.pointer (some ⟨B, 0, none⟩), .pointer (some ⟨C, 0, none⟩)] w fun e w' => e = .returned (.bool (sameO m v n o m' v' n' o')) ∧ Below w.heap.size w w' := by
  by_cases hs : m = m' ∧ v = v' ∧ n = n'
  · obtain ⟨rfl, rfl, rfl⟩ := hs
    refine (dsame_eq h h' hc hc' hn ho ho').mono ?_
    rintro e w' ⟨rfl, hb⟩
    refine ⟨bool_eq ?_, hb⟩
    have hd := same_told (m := m) (v := v) (m' := m) (v' := v) (n' := n) (o := o) (o' := o') hn
    by_cases ht : tellL n o = tellL n o'
    · rw [hd.2 ⟨rfl, rfl, rfl, ht⟩, decide_eq_true ht]
    · rw [decide_eq_false ht]
      cases hx : sameO m v n o m v n o'
      · rfl
      · exact absurd (hd.1 hx).2.2.2 ht
  · refine (dsame_no (c := max c c') (h.mono (Nat.le_max_left ..)) (h'.mono (Nat.le_max_right ..)) hs).mono ?_
    rintro e w' ⟨rfl, hb⟩
    refine ⟨bool_eq ?_, hb⟩
    have hd := same_told (m := m) (v := v) (m' := m') (v' := v') (n' := n') (o := o) (o' := o') hn
    cases hx : sameO m v n o m' v' n' o'
    · rfl
    · have := hd.1 hx
      exact absurd ⟨this.1, this.2.1, this.2.2.1⟩ hs
theorem sameO_self (hn : n ≤ 16) : sameO m v n o m v n o = true := (same_told hn).2 ⟨rfl, rfl, rfl, rfl⟩
theorem copyO_any (hb : Box w B 57 (chanO m v n o)) : Calls Try.prog 13 #[.pointer (some ⟨B, 0, none⟩)] w fun e w' => e = .returned (.pointer (some ⟨w.heap.size, 0, none⟩)) ∧ Box w' w.heap.size 57 (chanO m v n o) ∧ Below w.heap.size w w' := by
  rcases o with _ | ⟨t, s, R⟩ <;> exact copy_any hb
/-- A pair stands while another one turns. -/
theorem Pr.touch {w' : World} (h : Pr w C B H m v n c o) (k : Touch (Kq C' B' H') w w') (hH : w.heap.size ≤ H') (hC : C ≠ C') (hB : B ≠ B') {cs ds : Array Value} (hc : Box w C' 57 cs) (hd : Box w B' 36 ds) : Pr w' C B H m v n c o := by
  have ne : ∀ {b : Nat} {t : TypeId} {xs : Array Value}, Box w b t xs → t ≠ 57 → t ≠ 36 → ¬ Kq C' B' H' b := fun {b t xs} hb h57 h36 e => by
    rcases e with rfl | rfl | e
    · have h1 : w.heap[b]? = some (.cells xs t (0, 0)) := hb
      rw [show w.heap[b]? = _ from hc] at h1
      cases h1
      exact h57 rfl
    · have h1 : w.heap[b]? = some (.cells xs t (0, 0)) := hb
      rw [show w.heap[b]? = _ from hd] at h1
      cases h1
      exact h36 rfl
    · have := hb.inHeap
      omega
  have nC : ¬ Kq C' B' H' C := fun e => by
    rcases e with e | rfl | e
    · exact hC e
    · have h1 : w.heap[C]? = some (.cells _ 57 (0, 0)) := h.prog
      rw [show w.heap[C]? = _ from hd] at h1
      simp only [Option.some.injEq, Obj.cells.injEq] at h1
      exact absurd h1.2.1 (by decide)
    · have := h.prog.inHeap
      omega
  obtain ⟨sl, hbb⟩ := h.doc.cells
  have nB : ¬ Kq C' B' H' B := fun e => by
    rcases e with rfl | e | e
    · have h1 : w.heap[B]? = some (.cells _ 36 (0, 0)) := hbb
      rw [show w.heap[B]? = _ from hc] at h1
      simp only [Option.some.injEq, Obj.cells.injEq] at h1
      exact absurd h1.2.1 (by decide)
    · exact hB e
    · have := hbb.inHeap
      omega
  refine ⟨h.prog.touch k nC, ?_, h.ok, Nat.le_trans h.hH k.size⟩
  have hdoc := h.doc
  rcases o with _ | ⟨t, s, R⟩
  · exact Box.touch hdoc k nB
  · obtain ⟨g, q, cap, xs, rv, hdl⟩ := hdoc
    obtain ⟨_, cur, hgb⟩ := own_box hdl.own
    have ng := ne hgb (by decide) (by decide)
    refine ⟨g, q, cap, xs, rv, hdl.box.touch k nB, ?_, hdl.x0, hdl.x1, hdl.x2, ?_, hdl.far, hdl.hk, hdl.hR⟩
    · have kk := k.block g hgb.inHeap ng
      rcases hdl.own.2 with ⟨h', _⟩ | ⟨g', cap', cur', h', hb, hg, rest⟩
      · cases h'
      · cases h'
        exact ⟨hdl.own.1, .inr ⟨g, cap, cur', rfl, hb, kk.trans hg, rest⟩⟩
    · refine hdl.lane.touch k fun b hb e => ?_
      rcases e with rfl | rfl | e
      · exact hdl.lane.far hc (by decide) hb
      · exact hdl.lane.far hd (by decide) hb
      · have := hdl.lane.lt b hb
        omega
theorem new_weak (m v n : Int) (w : World) : Calls Try.prog 7 #[.int .i64 m, .int .u32 v, .int .i64 n] w fun e w' => ∃ p z, e = .returned (.tuple #[p, .int .i64 z]) ∧ Below w.heap.size w w' := by
  by_cases h : 1 ≤ m ∧ m ≤ 64 ∧ 1 ≤ n ∧ n ≤ 16
  · refine (new_ok h.1 h.2.1 h.2.2.1 h.2.2.2 w).mono ?_
    rintro e w' ⟨rfl, rfl⟩
    exact ⟨_, _, rfl, (Below.refl _ _).alloc (Nat.le_refl _) _⟩
  · refine (new_bad h w).mono ?_
    rintro e w' ⟨rfl, rfl⟩
    exact ⟨_, _, rfl, Below.refl _ _⟩
end
end Go.Proofs.Ytgicehhenahfpaa
