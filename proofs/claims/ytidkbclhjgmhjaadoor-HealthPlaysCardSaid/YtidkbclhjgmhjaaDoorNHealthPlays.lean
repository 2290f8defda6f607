/- HealthPlays: for every policy, and every row of faults, the law answers true: what the calls of a monitor answer is the document's. -/
import Derived.Test.YtidkbclhjgmhjaaDoorQ
import Derived.Test.YtidkbclhjgmhjaaDoorCards
import Derived.Test.YtidkbclhjgmhjaaDoorTie
import Derived.ProofKit
import Derived.OpenShut
import Derived.ShutString
import Derived.ChangeOld
import Derived.LaidMore
import Derived.MakeChecks
import Derived.SevenTiedAt
set_option linter.unusedVariables false
set_option linter.unusedSimpArgs false
namespace Go.Proofs.YtidkbclhjgmhjaaDoor
open Go.ChangeShapes Go.WideShapes Go.ChangeAt Go.RowKit

theorem Tryd.own : ownKnob Tryd.prog.godebug = none := by kernel_rfl
theorem Tryd.laidOut : laidOutB Tryd.prog = true := by kernel_rfl
theorem cells5 : Tryd.prog.cellsOf 5 = 1 := by kernel_rfl
theorem cells22 : Tryd.prog.cellsOf 22 = 1 := by kernel_rfl
theorem cells23 : Tryd.prog.cellsOf 23 = 17 := by kernel_rfl
theorem cells25 : Tryd.prog.cellsOf 25 = 20 := by kernel_rfl

section
variable {H : Type} {enc : TypeId × Value → H} {P : Program} {w : World} {base : Nat} {spare : Nat → Bool} {held : Bool}

/-- An array of integers, cell by cell. -/
theorem open_tab {t e : TypeId} {k : IntKind} {m fuel : Nat} {cs : List Value} {x : DataW H × List MemPlace} (ht : P.underlying t = some (.array m e)) (he : P.underlying e = some (.int k)) (hc : P.cellsOf e = 1) (hm : P.cellsOf t = m)
    (h : DataW.trod enc P w base spare held fuel t cs = some x) : ∃ T : Nat → Int, cs = (List.range m).map (fun i => .int k (T i)) ∧ ∀ i, i < m → (Lit.int k (T i)).wf = true := by
  obtain ⟨xs, n, _, _, hl, hx, hi⟩ := DataW.trod_array ht h
  have hn : ∀ i, i < m → ∃ z, cs[i]? = some (.int k z) ∧ (Lit.int k z).wf = true := by
    intro i him
    have h1 := hi i him
    have h2 : xs[i]? = some (xs[i]'(by omega)) := List.getElem?_eq_getElem (by omega)
    rw [h2, hc, Nat.mul_one] at h1
    obtain ⟨z, hz, _, hw⟩ := DataW.trod_int he h1
    have hcs : cs[i]? = some (cs[i]'(by omega)) := List.getElem?_eq_getElem (by omega)
    rw [List.drop_eq_getElem_cons (by omega)] at hz
    simp only [List.take_succ_cons, List.take_zero, List.cons.injEq, and_true] at hz
    exact ⟨z, by rw [hcs, hz], hw⟩
  refine ⟨fun i => match cs[i]? with | some (.int _ z) => z | _ => 0, ?_, ?_⟩
  · apply List.ext_getElem?
    intro i
    by_cases him : i < m
    · obtain ⟨z, hz, _⟩ := hn i him
      simp [hz, him]
    · rw [List.getElem?_eq_none (by omega), List.getElem?_eq_none (by simp; omega)]
  · intro i him
    obtain ⟨z, hz, hw⟩ := hn i him
    simp [hz, hw]
end

theorem wf_u8 {z : Int} (h : (Lit.int .u8 z).wf = true) : 0 ≤ z ∧ z ≤ 255 := by
  simpa [Lit.wf, IntKind.min, IntKind.max, IntKind.signed, IntKind.bits] using h

section
variable {H : Type} {enc : TypeId × Value → H} {w : World} {base : Nat} {spare : Nat → Bool} {held : Bool}
/-- A guest's configuration that came in. -/
theorem open_guest {r : Reach} {b0 : Nat} {v : Value} {d : DataW H} {p : List MemPlace} (hv : Value.okWide Tryd.prog w r b0 25 v) (h : DataW.Trod enc Tryd.prog w base spare held 25 v d p) :
    ∃ (T : Nat → Int) (pg li rs : Int), v = .agg (guest T pg li rs) ∧ 0 ≤ rs ∧ rs ≤ 255 := by
  obtain ⟨cs, rfl, hsz⟩ := okWide_struct Tryd.underlying25 hv
  obtain ⟨fuel, hf⟩ := h
  obtain ⟨xs, n, _, _, hl, hx, hi⟩ := DataW.trod_struct Tryd.underlying25 hf
  obtain ⟨l⟩ := cs
  have hsz' : l.length = 20 := by rw [cells25] at hsz; simpa using hsz
  have hx4 : xs.length = 4 := hx
  have some_of : ∀ i, i < 4 → ∃ y, xs[i]? = some y := fun i hi => ⟨_, List.getElem?_eq_getElem (by omega)⟩
  have e0 : DataW.trod enc Tryd.prog w base spare held n 5 (l.take 1) = xs[0]? := by simpa [cells5, Value.cells] using hi 0 _ rfl
  have e1 : DataW.trod enc Tryd.prog w base spare held n 22 ((l.drop 1).take 1) = xs[1]? := by simpa [cells22, Value.cells] using hi 1 _ rfl
  have e2 : DataW.trod enc Tryd.prog w base spare held n 5 ((l.drop 2).take 1) = xs[2]? := by simpa [cells5, Value.cells] using hi 2 _ rfl
  have e3 : DataW.trod enc Tryd.prog w base spare held n 23 ((l.drop 3).take 17) = xs[3]? := by simpa [cells23, Value.cells] using hi 3 _ rfl
  obtain ⟨y0, h0⟩ := some_of 0 (by omega)
  obtain ⟨y1, h1⟩ := some_of 1 (by omega)
  obtain ⟨y2, h2⟩ := some_of 2 (by omega)
  obtain ⟨y3, h3⟩ := some_of 3 (by omega)
  rw [h0] at e0
  rw [h1] at e1
  rw [h2] at e2
  rw [h3] at e3
  obtain ⟨pg, g0, _, _⟩ := DataW.trod_int Tryd.underlying5 e0
  obtain ⟨li, g1, _, _⟩ := DataW.trod_int Tryd.underlying22 e1
  obtain ⟨rs, g2, _, w2⟩ := DataW.trod_int Tryd.underlying5 e2
  obtain ⟨T, g3, _⟩ := open_tab Tryd.underlying23 Tryd.underlying5 cells5 cells23 e3
  obtain ⟨hr0, hr1⟩ := wf_u8 w2
  refine ⟨T, pg, li, rs, ?_, hr0, hr1⟩
  match l, hsz' with
  | c0 :: c1 :: c2 :: rest, hlen =>
    simp at g0 g1 g2 g3
    have hr : rest.length = 17 := by simpa using hlen
    rw [List.take_of_length_le (by omega)] at g3
    subst g0 g1 g2 g3
    rfl
end

/-- The powers of ten, as start-up laid them. -/
theorem tab_met {w : World} (h : laidMetH Tryd.prog Rows.healthPlaysRow.laid w) : Lib.TabIs Tryd.prog w "internal/strconv.uint64pow10" .u64 Lib.pow10Tab := by
  rw [MakeChecks.laidMetH_plain _ _ _ (by kernel_rfl)] at h
  have hm : ("internal/strconv.uint64pow10", DataW.agg (Lib.pow10Tab.map fun z => .lit (.int .u64 z))) ∈ Rows.healthPlaysRow.laid := by simp [Rows.healthPlaysRow, Rows.laid_internal_strconv_uint64pow10, Lib.pow10Tab, List.range, List.range.loop]
  first
    | exact tabIs_of_laid (g := 0) h hm (by kernel_rfl) rfl rfl rfl (by kernel_rfl) (by kernel_rfl)
    | exact tabIs_of_laid (g := 1) h hm (by kernel_rfl) rfl rfl rfl (by kernel_rfl) (by kernel_rfl)
    | exact tabIs_of_laid (g := 2) h hm (by kernel_rfl) rfl rfl rfl (by kernel_rfl) (by kernel_rfl)
/-- The heap that start-up leaves meets the condition. -/
theorem door_met (H : Type) (os : Os) (args : Array Value) : laidMetH Tryd.prog Rows.healthPlaysRow.laid ((World.doorLaid Tryd.prog 400 os).forCall (fun _ _ => 0) ⟨#[], args, []⟩).memory :=
  laidMetH_of_parts3 (fuel := 8) (laidMet_of_run' 8 (by kernel_rfl) (by kernel_rfl)) (by kernel_rfl) (by kernel_rfl)
set_option maxRecDepth 100000 in
theorem lifted (os : Os) (started : os.Started) (H : Type) (enc : TypeId × Value → H) :
    ReturnsInHanded {} Tryd.checked os 3 .any (fun w args => (Rows.healthPlaysSpec.pre enc Tryd.prog Tryd.f3 [] false w args ∧ laidMetH Tryd.prog Rows.healthPlaysRow.laid w) ∧ sizedMet enc Tryd.prog Tryd.f3 (OpenSpec.ofChange Rows.healthPlaysSpec) false w args)
      (Rows.healthPlaysSpec.post enc Tryd.prog Tryd.f3 false true false false) := by
  refine returnsInHanded_of_change_and (C := Tryd.checked) (X := fun w _ => laidMetH Tryd.prog Rows.healthPlaysRow.laid w) (fun _ _ _ hh h => h.of_heap hh) Tryd.own started (by kernel_rfl) Tryd.func3
    (ChangeSpec.witness_shaped (enc := enc) (C := Tryd.checked) (os := os) (X := fun w _ => laidMetH Tryd.prog Rows.healthPlaysRow.laid w) false (World.doorLaid Tryd.prog 400 os) #[.agg (guest tabZ 0 0 0), .slice none 0 0] 8 rfl (World.shaped_of_RefB (by kernel_rfl) (by kernel_rfl)) (by kernel_rfl) (by kernel_rfl) (by kernel_rfl) (door_met H os _)) ?_
  intro W base args ds gs before hval0 hW _ _ hL _
  have hN : Nums itS W := nums_of (tab_met hL)
  have hval : ∀ (j : Nat) t v, Tryd.f3.params[j]? = some t → args[j]? = some v → Value.okWide Tryd.prog W .any base t v := hval0
  have hW' := hW
  obtain ⟨p, q, hA0, hV, rfl, hfz, hnd⟩ := hW
  have hA : DataW.TrodAll enc Tryd.prog W 0 (fun _ => true) true Tryd.f3.params.toList args.toList ds p := hA0
  rw [Tryd.params3] at hA hval
  obtain ⟨v0, vs0, d0, ds0, p0, q0, hargs, rfl, rfl, h0, r0⟩ := trodAll_cons hA
  obtain ⟨v1, vs1, d1, ds1, p1, q1, rfl, rfl, rfl, h1, r1⟩ := trodAll_cons r0
  obtain ⟨rfl, rfl, rfl⟩ := trodAll_nil r1
  obtain rfl : args = #[v0, v1] := by cases args; simp_all
  obtain ⟨rfl, rfl⟩ := trodVars_none hV
  have k0 := h0
  have k1 := h1
  have lt0 : ∀ x ∈ p0, x.block < W.heap.size := by obtain ⟨m, hm⟩ := h0; exact DataW.trod_lt m _ _ _ hm
  have lt1 : ∀ x ∈ p1, x.block < W.heap.size := by obtain ⟨m, hm⟩ := h1; exact DataW.trod_lt m _ _ _ hm
  obtain ⟨T, pg, li, rs, rfl, hr0, hr1⟩ := open_guest (hval 0 25 v0 rfl rfl) h0
  obtain ⟨a1, len1, cap1, rfl⟩ := okWide_slice Tryd.underlying26 (hval 1 26 v1 rfl rfl)
  have walk : Calls Tryd.prog 3 #[.agg (guest T pg li rs), .slice a1 len1 cap1] W (Yes W) := by
    by_cases hl : 200 < len1
    · exact law_long a1 len1 cap1 hl W
    · by_cases hT : ∀ k, k < 17 → T k < 5
      · obtain ⟨fuel, hf⟩ := h1
        rcases open_ints Tryd.underlying26 Tryd.underlying5 (by kernel_rfl) hf with ⟨hcs, _⟩ | ⟨x, l, c, zs, hcs, _, hl2, hm, hz, _, hcell, hwz⟩
        · simp [Value.cells] at hcs
          obtain ⟨rfl, rfl, rfl⟩ := hcs
          exact law_good hT hr0 hr1 _ _ _ (by omega) W hN (fun i hi => absurd hi (by omega))
        · simp [Value.cells] at hcs
          obtain ⟨rfl, rfl, rfl⟩ := hcs
          by_cases hz0 : len1 = 0
          · subst hz0
            exact law_good hT hr0 hr1 _ _ _ (by omega) W hN (fun i hi => absurd hi (by omega))
          · obtain ⟨b, off, spot⟩ := x
            have hzl : zs.length = cap1 := by simpa using hz
            have hc0 := hcell 0 (by omega)
            have hspot : spot = none := by simpa [Addr.add] using World.cell?_spot hc0
            subst hspot
            have hcell' : ∀ i, i < len1 → W.cell? ⟨b, off + i, none⟩ = some (.int .u8 (zs.getD i 0)) := fun i hi => by
              have := hcell i (by omega)
              rwa [Addr.add_mid] at this
            refine law_good hT hr0 hr1 _ _ _ (by omega) W hN fun i hi => ?_
            have hmem : zs.getD i 0 ∈ zs := by
              have : i < zs.length := by omega
              simp [List.getD, List.getElem?_eq_getElem this]
            have hw := wf_u8 (hwz _ hmem)
            obtain ⟨f, hf⟩ : ∃ f : Nat, zs.getD i 0 = f := ⟨(zs.getD i 0).toNat, by omega⟩
            exact ⟨b, off, f, rfl, block_lt_of_cell (hcell' 0 (by omega)), by rw [← hf]; exact hcell' i hi, by omega⟩
      · refine law_bad ?_ a1 len1 cap1 (by omega) W
        simpa using hT
  clear hA0 hval0
  refine walk.mono fun e W' ⟨he, bel⟩ => ?_
  subst he
  exact ⟨_, rfl, _, _, _, [], _, [], hW', trodAll_mk1 (shut_bool Tryd.underlying4 _), (trodAll_cons_mk (Below.trod Tryd.laidOut (by kernel_rfl) (of_decide_eq_true (by kernel_rfl)) k0 bel lt0) (trodAll_cons_mk (Below.trod Tryd.laidOut (by kernel_rfl) (of_decide_eq_true (by kernel_rfl)) k1 bel lt1) trodAll_mk0)), rfl, bel.frame _, fun h => by cases h⟩

theorem law_over : Rows.healthPlaysRow.holds Tryd.pinned (OpenSpec.ofChange Rows.healthPlaysSpec) :=
  OpenClaim.holds_of_wide 3 Tryd.f3 rfl rfl rfl rfl rfl rfl rfl ⟨rfl, rfl, rfl, rfl, rfl⟩ rfl rfl rfl rfl rfl (by kernel_rfl) Tryd.func3 (by kernel_rfl)
    (of_decide_eq_true (by kernel_rfl)) (by unfold Func.isWrapper; first | (rw [if_pos (by decide +kernel)]; kernel_rfl) | (rw [if_neg (by decide +kernel)]; exact ⟨rfl, rfl⟩))
    (fun os started H enc _ => lifted os started H enc)

theorem healthPlays_holds : Rows.HealthPlaysCardSaid :=
  Claim7.holds_tied_plain_at .later [] [.data, .data, .data] true (true, "d07dfc8afd226a3179e567678611154e8684267f997221321743263b1c71f160") false
    law_over (fun _ h => by cases h) (by kernel_rfl) (fun _ h => by cases h) healthPlays_row_tie rfl ⟨rfl, rfl⟩ (by kernel_rfl) rfl
    (fun f fn hf hfn => by
      obtain rfl : f = 3 := Option.some.inj ((show Tryd.prog.funcNamed "almonry/almonrylaw29.HealthPlays" = some 3 by kernel_rfl).symm.trans hf) |>.symm
      obtain rfl : fn = Tryd.f3 := (Option.some.inj (Tryd.func3.symm.trans hfn)).symm
      exact ⟨by kernel_rfl, fun j t ht => by
        rw [Tryd.params3] at ht
        rcases j with _ | _ | _ <;> simp at ht <;> (subst ht; kernel_rfl)⟩)
    (by kernel_rfl)
end Go.Proofs.YtidkbclhjgmhjaaDoor
