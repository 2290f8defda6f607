/- HealthCounts: for every policy, and every row of faults, the law answers true; each argument reads behind the call as it read before. -/
import Derived.Test.YtopigaaehailiaaI
import Derived.ProofKit
import Derived.OpenShut
import Derived.ShutString
import Derived.ChangeOld
namespace Go.Proofs.Ytopigaaehailiaa
open Go.ChangeShapes Go.WideShapes Go.ChangeAt Go.RowKit

theorem Try.own : ownKnob Try.prog.godebug = none := by kernel_rfl
theorem Try.laidOut : laidOutB Try.prog = true := by kernel_rfl
theorem cells5 : Try.prog.cellsOf 5 = 1 := by kernel_rfl
theorem cells22 : Try.prog.cellsOf 22 = 1 := by kernel_rfl
theorem cells23 : Try.prog.cellsOf 23 = 17 := by kernel_rfl
theorem cells25 : Try.prog.cellsOf 25 = 20 := by kernel_rfl

section
variable {H : Type} {enc : TypeId × Value → H} {P : Program} {w : World} {base : Nat} {spare : Nat → Bool} {held : Bool}

/-- An array of integers, cell by cell. -/
theorem open_tab {t e : TypeId} {k : IntKind} {m fuel : Nat} {cs : List Value} {x : DataW H × List MemPlace} (ht : P.underlying t = some (.array m e)) (he : P.underlying e = some (.int k)) (hc : P.cellsOf e = 1) (hm : P.cellsOf t = m)
    (h : DataW.trod enc P w base spare held fuel t cs = some x) : ∃ T : Nat → Int, cs = (List.range m).map (fun i => .int k (T i)) ∧ ∀ i, i < m → (Lit.int k (T i)).wf = true := by
  obtain ⟨xs, n, _, _, hl, hx, hi⟩ := DataW.trod_array ht h
  have hn : ∀ i, i < m → ∃ z, cs[i]? = some (.int k z) ∧ (Lit.int k z).wf = true := by
    intro i him
    have h1 := hi i him
    have h2 : xs[i]? = some (xs[i]'(by omega)) := List.getElem?_eq_getElem (by omega)
    rw [h2, hc, Nat.mul_one] at h1
    obtain ⟨z, hz, _, hw⟩ := DataW.trod_int he h1
    have hcs : cs[i]? = some (cs[i]'(by omega)) := List.getElem?_eq_getElem (by omega)
    rw [List.drop_eq_getElem_cons (by omega)] at hz
    simp only [List.take_succ_cons, List.take_zero, List.cons.injEq, and_true] at hz
    exact ⟨z, by rw [hcs, hz], hw⟩
  refine ⟨fun i => match cs[i]? with | some (.int _ z) => z | _ => 0, ?_, ?_⟩
  · apply List.ext_getElem?
    intro i
    by_cases him : i < m
    · obtain ⟨z, hz, _⟩ := hn i him
      simp [hz, him]
    · rw [List.getElem?_eq_none (by omega), List.getElem?_eq_none (by simp; omega)]
  · intro i him
    obtain ⟨z, hz, hw⟩ := hn i him
    simp [hz, hw]
end

theorem wf_u8 {z : Int} (h : (Lit.int .u8 z).wf = true) : 0 ≤ z ∧ z ≤ 255 := by
  simpa [Lit.wf, IntKind.min, IntKind.max, IntKind.signed, IntKind.bits] using h

section
variable {H : Type} {enc : TypeId × Value → H} {w : World} {base : Nat} {spare : Nat → Bool} {held : Bool}
/-- A guest's configuration that came in. -/
theorem open_guest {r : Reach} {b0 : Nat} {v : Value} {d : DataW H} {p : List MemPlace} (hv : Value.okWide Try.prog w r b0 25 v) (h : DataW.Trod enc Try.prog w base spare held 25 v d p) :
    ∃ (T : Nat → Int) (pg li rs : Int), v = .agg (guest T pg li rs) ∧ 0 ≤ rs ∧ rs ≤ 255 := by
  obtain ⟨cs, rfl, hsz⟩ := okWide_struct Try.underlying25 hv
  obtain ⟨fuel, hf⟩ := h
  obtain ⟨xs, n, _, _, hl, hx, hi⟩ := DataW.trod_struct Try.underlying25 hf
  obtain ⟨l⟩ := cs
  have hsz' : l.length = 20 := by rw [cells25] at hsz; simpa using hsz
  have hx4 : xs.length = 4 := hx
  have some_of : ∀ i, i < 4 → ∃ y, xs[i]? = some y := fun i hi => ⟨_, List.getElem?_eq_getElem (by omega)⟩
  have e0 : DataW.trod enc Try.prog w base spare held n 5 (l.take 1) = xs[0]? := by simpa [cells5, Value.cells] using hi 0 _ rfl
  have e1 : DataW.trod enc Try.prog w base spare held n 22 ((l.drop 1).take 1) = xs[1]? := by simpa [cells22, Value.cells] using hi 1 _ rfl
  have e2 : DataW.trod enc Try.prog w base spare held n 5 ((l.drop 2).take 1) = xs[2]? := by simpa [cells5, Value.cells] using hi 2 _ rfl
  have e3 : DataW.trod enc Try.prog w base spare held n 23 ((l.drop 3).take 17) = xs[3]? := by simpa [cells23, Value.cells] using hi 3 _ rfl
  obtain ⟨y0, h0⟩ := some_of 0 (by omega)
  obtain ⟨y1, h1⟩ := some_of 1 (by omega)
  obtain ⟨y2, h2⟩ := some_of 2 (by omega)
  obtain ⟨y3, h3⟩ := some_of 3 (by omega)
  rw [h0] at e0
  rw [h1] at e1
  rw [h2] at e2
  rw [h3] at e3
  obtain ⟨pg, g0, _, _⟩ := DataW.trod_int Try.underlying5 e0
  obtain ⟨li, g1, _, _⟩ := DataW.trod_int Try.underlying22 e1
  obtain ⟨rs, g2, _, w2⟩ := DataW.trod_int Try.underlying5 e2
  obtain ⟨T, g3, _⟩ := open_tab Try.underlying23 Try.underlying5 cells5 cells23 e3
  obtain ⟨hr0, hr1⟩ := wf_u8 w2
  refine ⟨T, pg, li, rs, ?_, hr0, hr1⟩
  match l, hsz' with
  | c0 :: c1 :: c2 :: rest, hlen =>
    simp at g0 g1 g2 g3
    have hr : rest.length = 17 := by simpa using hlen
    rw [List.take_of_length_le (by omega)] at g3
    subst g0 g1 g2 g3
    rfl
end

set_option maxRecDepth 100000 in
theorem lifted (os : Os) (started : os.Started) (H : Type) (enc : TypeId × Value → H) :
    ReturnsInHanded {} Try.checked os 3 .any (Rows.healthCountsSpec.pre6 enc Try.prog Try.f3 Rows.healthCountsRow.domain false) (Rows.healthCountsSpec.post enc Try.prog Try.f3 false true false false) := by
  refine returnsInHanded_of_change (C := Try.checked) Try.own started (by kernel_rfl) Try.func3
    (ChangeSpec.witness6 (enc := enc) (C := Try.checked) false ⟨#[], #[.agg (guest tabZ 0 0 0), .slice none 0 0], []⟩ 8 (by kernel_rfl) (by kernel_rfl) (by kernel_rfl) (by kernel_rfl)) ?_
  intro W base args ds gs before hval0 hW hcnd _
  have hval : ∀ (j : Nat) t v, Try.f3.params[j]? = some t → args[j]? = some v → Value.okWide Try.prog W .any base t v := hval0
  have hW' := hW
  obtain ⟨p, q, hA0, hV, rfl, hfz, hnd⟩ := hW
  have hA : DataW.TrodAll enc Try.prog W 0 (fun _ => true) true Try.f3.params.toList args.toList ds p := hA0
  rw [Try.params3] at hA hval
  obtain ⟨v0, vs0, d0, ds0, p0, q0, hargs, rfl, rfl, h0, r0⟩ := trodAll_cons hA
  obtain ⟨v1, vs1, d1, ds1, p1, q1, rfl, rfl, rfl, h1, r1⟩ := trodAll_cons r0
  obtain ⟨rfl, rfl, rfl⟩ := trodAll_nil r1
  obtain rfl : args = #[v0, v1] := by cases args; simp_all
  obtain ⟨rfl, rfl⟩ := trodVars_none hV
  have k0 := h0
  have k1 := h1
  have lt0 : ∀ x ∈ p0, x.block < W.heap.size := by obtain ⟨m, hm⟩ := h0; exact DataW.trod_lt m _ _ _ hm
  have lt1 : ∀ x ∈ p1, x.block < W.heap.size := by obtain ⟨m, hm⟩ := h1; exact DataW.trod_lt m _ _ _ hm
  obtain ⟨T, pg, li, rs, rfl, hr0, hr1⟩ := open_guest (hval 0 25 v0 rfl rfl) h0
  obtain ⟨a1, len1, cap1, rfl⟩ := okWide_slice Try.underlying26 (hval 1 26 v1 rfl rfl)
  have walk : Calls Try.prog 3 #[.agg (guest T pg li rs), .slice a1 len1 cap1] W fun e w' => e = .returned (.bool true) ∧ Below W.heap.size W w' := by
    by_cases hT : ∀ k, k < 17 → T k < 5
    · by_cases hl : 200 < len1
      · exact law_long hT a1 len1 cap1 hl W
      · obtain ⟨fuel, hf⟩ := h1
        rcases open_ints Try.underlying26 Try.underlying5 (by kernel_rfl) hf with ⟨hcs, _⟩ | ⟨x, l, c, zs, hcs, _, hl2, hm, hz, _, hcell, hwz⟩
        · simp [Value.cells] at hcs
          obtain ⟨rfl, rfl, rfl⟩ := hcs
          exact law_empty hT _ _ W
        · simp [Value.cells] at hcs
          obtain ⟨rfl, rfl, rfl⟩ := hcs
          by_cases hz0 : len1 = 0
          · subst hz0
            exact law_empty hT _ _ W
          · obtain ⟨b, off, spot⟩ := x
            have hzl : zs.length = cap1 := by simpa using hz
            have hc0 := hcell 0 (by omega)
            have hspot : spot = none := by simpa [Addr.add] using World.cell?_spot hc0
            subst hspot
            have hcell' : ∀ i, i < len1 → W.cell? ⟨b, off + i, none⟩ = some (.int .u8 (zs.getD i 0)) := fun i hi => by
              have := hcell i (by omega)
              rwa [Addr.add_mid] at this
            refine law_row hT hr0 hr1 b off len1 cap1 zs (by omega) W (block_lt_of_cell (hcell' 0 (by omega))) fun i hi => ⟨hcell' i hi, ?_⟩
            have hmem : zs.getD i 0 ∈ zs := by
              have : i < zs.length := by omega
              simp [List.getD, List.getElem?_eq_getElem this]
            exact wf_u8 (hwz _ hmem)
    · refine law_bad ?_ a1 len1 cap1 W
      simpa using hT
  clear hA0 hval0
  refine walk.mono fun e W' ⟨he, bel⟩ => ?_
  subst he
  exact ⟨_, rfl, _, _, _, [], _, [], hW', trodAll_mk1 (shut_bool Try.underlying4 _), (trodAll_cons_mk (Below.trod Try.laidOut (by kernel_rfl) (of_decide_eq_true (by kernel_rfl)) k0 bel lt0) (trodAll_cons_mk (Below.trod Try.laidOut (by kernel_rfl) (of_decide_eq_true (by kernel_rfl)) k1 bel lt1) trodAll_mk0)), rfl, bel.frame _, fun h => by cases h⟩

theorem over : Rows.healthCountsRow.holds Try.pinned (OpenSpec.ofChange Rows.healthCountsSpec) :=
  OpenClaim.holds_of_wide 3 Try.f3 rfl rfl rfl rfl rfl rfl rfl ⟨rfl, rfl, rfl, rfl, rfl⟩ rfl rfl rfl rfl rfl (by kernel_rfl) Try.func3 (by kernel_rfl)
    (of_decide_eq_true (by kernel_rfl)) (by unfold Func.isWrapper; first | (rw [if_pos (by decide +kernel)]; kernel_rfl) | (rw [if_neg (by decide +kernel)]; exact ⟨rfl, rfl⟩))
    (fun os started H enc _ => lifted os started H enc)

theorem healthCounts_holds : Rows.HealthCountsSaid := over
end Go.Proofs.Ytopigaaehailiaa
