/- SamplePlays: of any arguments the law answers true, and leaves them as they were. -/
import Derived.Test.YtgicehhenahfpaaDoorBg
import Derived.Test.YtgicehhenahfpaaDoorRo
import Derived.Test.YtgicehhenahfpaaDoorCards
import Derived.Test.YtgicehhenahfpaaDoorTie
import Derived.ChangeMaps5
import Derived.ChangeOld
import Derived.LaidMore
import Derived.MakeChecks
import Derived.SevenTiedAt
set_option linter.unusedVariables false
set_option linter.unusedSimpArgs false
namespace Go.Proofs.YtgicehhenahfpaaDoor
open Go.ChangeShapes Go.WideShapes Go.ChangeAt Go.RowKit Go.ChangeMaps

theorem Tryd.own : ownKnob Tryd.prog.godebug = none := by kernel_rfl
theorem Tryd.laidOut : laidOutB Tryd.prog = true := by kernel_rfl
/-- A row of deeds, out of its cells. -/
theorem deeds_of {W : World} {a : Option Addr} {len : Nat} {l : List (List Value)} (hn : l.length = len) (h : ∀ (k : Nat) (cs : List Value), l[k]? = some cs → Ro.Leaves [.num .u8, .num .u64, .str, .num .i64] cs ∧ ∃ b off, a = some ⟨b, off, none⟩ ∧ b < W.heap.size ∧ ∀ (j : Nat) (v : Value), cs[j]? = some v → W.cell? ⟨b, off + 4 * k + j, none⟩ = some v) : ∃ l, IsDeeds W a len l := by
  have each : ∀ cs : List Value, ∃ f : Deed, Ro.Leaves [.num .u8, .num .u64, .str, .num .i64] cs → cs = [.int .u8 f.k, .int .u64 f.a, .string f.s, .int .i64 f.wd] ∧ f.k < 256 ∧ f.a < 18446744073709551616 := fun cs => by
    by_cases hc : Ro.Leaves [.num .u8, .num .u64, .str, .num .i64] cs
    · obtain ⟨v, r, rfl, ⟨z, rfl, wf⟩, v2, r2, rfl, ⟨z2, rfl, wf2⟩, v3, r3, rfl, ⟨z3, rfl, wf3⟩, v4, r4, rfl, ⟨z4, rfl, wf4⟩, rfl⟩ := hc
      obtain ⟨n, rfl, hn⟩ := Ro.wf_u8 wf
      obtain ⟨n2, rfl, hn2⟩ := Ro.wf_u64 wf2
      exact ⟨⟨n, n2, z4, z3⟩, fun _ => ⟨rfl, hn, hn2⟩⟩
    · exact ⟨⟨0, 0, 0, ⟨#[]⟩⟩, fun h => absurd h hc⟩
  obtain ⟨g, hg⟩ := Classical.axiomOfChoice each
  refine ⟨l.map g, by simpa using hn, fun k f hf => ?_⟩
  rw [List.getElem?_map, Option.map_eq_some_iff] at hf
  obtain ⟨cs, hcs, rfl⟩ := hf
  obtain ⟨hl, b, off, e, hb, hcell⟩ := h k cs hcs
  obtain ⟨e2, hlt, hlt2⟩ := hg cs hl
  rw [e2] at hcell
  exact ⟨b, off, e, hb, hcell 0 _ rfl, hcell 1 _ rfl, hcell 2 _ rfl, hcell 3 _ rfl, hlt, hlt2⟩
theorem u32_bd {z : Int} (h : (Lit.int .u32 z).wf = true) : 0 ≤ z ∧ z ≤ 4294967295 := Ro.wf_bd h

/-- The powers of ten, as start-up laid them. -/
theorem tab_met {w : World} (h : laidMetH Tryd.prog Rows.samplePlaysRow.laid w) : Lib.TabIs Tryd.prog w "internal/strconv.uint64pow10" .u64 Lib.pow10Tab := by
  rw [MakeChecks.laidMetH_plain _ _ _ (by kernel_rfl)] at h
  have hm : ("internal/strconv.uint64pow10", DataW.agg (Lib.pow10Tab.map fun z => .lit (.int .u64 z))) ∈ Rows.samplePlaysRow.laid := by simp [Rows.samplePlaysRow, Rows.laid_internal_strconv_uint64pow10, Lib.pow10Tab, List.range, List.range.loop]
  first
    | exact tabIs_of_laid (g := 0) h hm (by kernel_rfl) rfl rfl rfl (by kernel_rfl) (by kernel_rfl)
    | exact tabIs_of_laid (g := 1) h hm (by kernel_rfl) rfl rfl rfl (by kernel_rfl) (by kernel_rfl)
    | exact tabIs_of_laid (g := 2) h hm (by kernel_rfl) rfl rfl rfl (by kernel_rfl) (by kernel_rfl)
/-- The heap that start-up leaves meets the condition. -/
theorem door_met (H : Type) (os : Os) (args : Array Value) : laidMetH Tryd.prog Rows.samplePlaysRow.laid ((World.doorLaid Tryd.prog 400 os).forCall (fun _ _ => 0) ⟨#[], args, []⟩).memory :=
  laidMetH_of_parts3 (fuel := 8) (laidMet_of_run' 8 (by kernel_rfl) (by kernel_rfl)) (by kernel_rfl) (by kernel_rfl)
set_option maxRecDepth 100000 in
theorem law_lifted (os : Os) (started : os.Started) (H : Type) (enc : TypeId × Value → H) :
    ReturnsInHanded {} Tryd.checked os 3 .any (fun w args => (Rows.samplePlaysSpec.pre enc Tryd.prog Tryd.f3 [] false w args ∧ laidMetH Tryd.prog Rows.samplePlaysRow.laid w) ∧ sizedMet enc Tryd.prog Tryd.f3 (OpenSpec.ofChange Rows.samplePlaysSpec) false w args)
      (Rows.samplePlaysSpec.post enc Tryd.prog Tryd.f3 false true false false) := by
  refine returnsInHanded_of_change_and (C := Tryd.checked) (X := fun w _ => laidMetH Tryd.prog Rows.samplePlaysRow.laid w) (fun _ _ _ hh h => h.of_heap hh) Tryd.own started (by kernel_rfl) Tryd.func3
    (ChangeSpec.witness_shaped (enc := enc) (C := Tryd.checked) (os := os) (X := fun w _ => laidMetH Tryd.prog Rows.samplePlaysRow.laid w) false (World.doorLaid Tryd.prog 400 os) #[.agg #[.int .i64 0, .int .u32 0, .int .i64 0], .slice none 0 0] 8 rfl (World.shaped_of_RefB (by kernel_rfl) (by kernel_rfl)) (by kernel_rfl) (by kernel_rfl) (by kernel_rfl) (door_met H os _)) ?_
  intro W base args ds gs before hval0 hW _ _ hL _
  have hTab := tab_met hL
  have hval : ∀ (j : Nat) t v, Tryd.f3.params[j]? = some t → args[j]? = some v → Value.okWide Tryd.prog W .any base t v := hval0
  have hW' := hW
  obtain ⟨p, q, hA0, hV, rfl, hfz, hnd⟩ := hW
  have hA : DataW.TrodAll enc Tryd.prog W 0 (fun _ => true) true Tryd.f3.params.toList args.toList ds p := hA0
  obtain ⟨rfl, rfl⟩ := trodVars_none hV
  have hA2 := hA
  rw [Tryd.params3] at hA2
  obtain ⟨v0, vs0, d0, ds0, p0, q0, hargs, rfl, rfl, h0, r0⟩ := trodAll_cons hA2
  obtain ⟨v1, vs1, d1, ds1, p1, q1, rfl, rfl, rfl, h1, r1⟩ := trodAll_cons r0
  obtain ⟨rfl, rfl, rfl⟩ := trodAll_nil r1
  obtain rfl : args = #[v0, v1] := by cases args; simp_all
  obtain ⟨l0, rfl, g0⟩ := Ro.open_flat Tryd.underlying24 (ks := [.num .i64, .num .u32, .num .i64]) (by kernel_rfl) (hval 0 24 v0 (by rw [Tryd.params3]; rfl) rfl) h0
  obtain ⟨a1, len1, cap1, rfl⟩ := okWide_slice Tryd.underlying25 (hval 1 25 v1 (by rw [Tryd.params3]; rfl) rfl)
  obtain ⟨l1, hn1, hl1⟩ := Ro.rows_of (by decide) (Ro.open_rows Tryd.underlying25 (ks := [.num .u8, .num .u64, .str, .num .i64]) (by kernel_rfl) h1)
  clear hA0 hval0
  have walk : Calls Tryd.prog 3 #[.agg l0.toArray, .slice a1 len1 cap1] W (Yes W) := by
    obtain ⟨l1, hl1⟩ := deeds_of hn1 hl1
    obtain ⟨v, r, rfl, ⟨m1, rfl, wf1⟩, v2, r2, rfl, ⟨u1, rfl, wf2⟩, v3, r3, rfl, ⟨n1, rfl, wf3⟩, rfl⟩ := g0
    have hu1 := u32_bd wf2
    show Calls Tryd.prog 3 #[.agg #[.int .i64 m1, .int .u32 u1, .int .i64 n1], .slice a1 len1 cap1] W (Yes W)
    by_cases g1 : Good m1 n1
    · cases hf : fewB len1 l1
      · exact plays_much g1 hl1 hf
      · obtain ⟨N1, rfl⟩ : ∃ N : Nat, n1 = N := ⟨n1.toNat, by have := g1.2.2.1; omega⟩
        exact plays_all g1 hl1 hf hu1.1 hu1.2 hTab
    · exact plays_bad g1
  refine walk.mono fun e W' ⟨he, bel⟩ => ?_
  subst he
  exact ⟨_, rfl, _, _, _, [], _, [], hW', trodAll_mk1 (shut_bool Tryd.underlying4 _), Ro.trodAll_below Tryd.laidOut bel (by kernel_rfl) hA, rfl, bel.frame _, fun h => by cases h⟩

theorem law_over : Rows.samplePlaysRow.holds Tryd.pinned (OpenSpec.ofChange Rows.samplePlaysSpec) :=
  OpenClaim.holds_of_wide 3 Tryd.f3 rfl rfl rfl rfl rfl rfl rfl ⟨rfl, rfl, rfl, rfl, rfl⟩ rfl rfl rfl rfl rfl (by kernel_rfl) Tryd.func3 (by kernel_rfl)
    (of_decide_eq_true (by kernel_rfl)) (by unfold Func.isWrapper; first | (rw [if_pos (by decide +kernel)]; kernel_rfl) | (rw [if_neg (by decide +kernel)]; exact ⟨rfl, rfl⟩))
    (fun os started H enc _ => law_lifted os started H enc)

theorem samplePlays_holds : Rows.SamplePlaysCardSaid :=
  Claim7.holds_tied_plain_at .later [] [.data, .data, .data] true (true, "304c562c339e03355ab07430689e600fc0caa9695322d84fe70f9efa0e928638") false
    law_over (fun _ h => by cases h) (by kernel_rfl) (fun _ h => by cases h) samplePlays_row_tie rfl ⟨rfl, rfl⟩ (by kernel_rfl) rfl
    (fun f fn hf hfn => by
      obtain rfl : f = 3 := Option.some.inj ((show Tryd.prog.funcNamed "almonry/almonrylaw18.SamplePlays" = some 3 by kernel_rfl).symm.trans hf) |>.symm
      obtain rfl : fn = Tryd.f3 := (Option.some.inj (Tryd.func3.symm.trans hfn)).symm
      exact ⟨by kernel_rfl, fun j t ht => by
        rw [Tryd.params3] at ht
        rcases j with _ | _ | _ <;> simp at ht <;> (subst ht; kernel_rfl)⟩)
    (by kernel_rfl)
end Go.Proofs.YtgicehhenahfpaaDoor
