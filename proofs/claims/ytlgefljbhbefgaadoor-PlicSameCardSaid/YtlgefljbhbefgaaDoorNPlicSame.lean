/- PlicSame: of any arguments the law answers true, and leaves them as they were. -/
import Derived.Test.YtlgefljbhbefgaaDoorFc
import Derived.Test.YtlgefljbhbefgaaDoorTa
import Derived.Test.YtlgefljbhbefgaaDoorRo
import Derived.Test.YtlgefljbhbefgaaDoorCards
import Derived.Test.YtlgefljbhbefgaaDoorTie
import Derived.ChangeMaps5
import Derived.ChangeOld
import Derived.LaidMore
import Derived.MakeChecks
import Derived.SevenTiedAt
set_option linter.unusedVariables false
set_option linter.unusedSimpArgs false
namespace Go.Proofs.YtlgefljbhbefgaaDoor
open Go.ChangeShapes Go.WideShapes Go.ChangeAt Go.RowKit Go.ChangeMaps

theorem Tryd.own : ownKnob Tryd.prog.godebug = none := by kernel_rfl
theorem Tryd.laidOut : laidOutB Tryd.prog = true := by kernel_rfl
/-- A row of deeds, out of its cells. -/
theorem deeds_of {W : World} {a : Option Addr} {len : Nat} {l : List (List Value)} (hn : l.length = len) (h : ∀ (k : Nat) (cs : List Value), l[k]? = some cs → Ro.Leaves [.num .u8, .num .i64, .boo, .num .u64, .num .u64, .num .i64] cs ∧ ∃ b off, a = some ⟨b, off, none⟩ ∧ b < W.heap.size ∧ ∀ (j : Nat) (v : Value), cs[j]? = some v → W.cell? ⟨b, off + 6 * k + j, none⟩ = some v) : ∃ l, IsDeeds W a len l := by
  have each : ∀ cs : List Value, ∃ f : Deed, Ro.Leaves [.num .u8, .num .i64, .boo, .num .u64, .num .u64, .num .i64] cs → cs = [.int .u8 f.k, .int .i64 f.n, .bool f.hi, .int .u64 f.off, .int .u64 f.v, .int .i64 f.wd] ∧ f.k < 256 ∧ f.off < 18446744073709551616 ∧ f.v < 18446744073709551616 ∧ f.n ≤ 9223372036854775807 := fun cs => by
    by_cases hc : Ro.Leaves [.num .u8, .num .i64, .boo, .num .u64, .num .u64, .num .i64] cs
    · obtain ⟨v, r, rfl, ⟨z, rfl, wf⟩, v2, r2, rfl, ⟨z2, rfl, wf2⟩, v3, r3, rfl, ⟨z3, rfl⟩, v4, r4, rfl, ⟨z4, rfl, wf4⟩, v5, r5, rfl, ⟨z5, rfl, wf5⟩, v6, r6, rfl, ⟨z6, rfl, wf6⟩, rfl⟩ := hc
      obtain ⟨n, rfl, hn⟩ := Ro.wf_u8 wf
      obtain ⟨n4, rfl, hn4⟩ := Ro.wf_u64 wf4
      obtain ⟨n5, rfl, hn5⟩ := Ro.wf_u64 wf5
      exact ⟨⟨n, z2, z3, n4, n5, z6⟩, fun _ => ⟨rfl, hn, hn4, hn5, (Ro.wf_i64 wf2).2⟩⟩
    · exact ⟨⟨0, 0, false, 0, 0, 0⟩, fun h => absurd h hc⟩
  obtain ⟨g, hg⟩ := Classical.axiomOfChoice each
  refine ⟨l.map g, by simpa using hn, fun k f hf => ?_⟩
  rw [List.getElem?_map, Option.map_eq_some_iff] at hf
  obtain ⟨cs, hcs, rfl⟩ := hf
  obtain ⟨hl, b, off, e, hb, hcell⟩ := h k cs hcs
  obtain ⟨e2, hlt⟩ := hg cs hl
  rw [e2] at hcell
  have c0 := hcell 0 _ rfl
  have c1 := hcell 1 _ rfl
  have c2 := hcell 2 _ rfl
  have c3 := hcell 3 _ rfl
  have c4 := hcell 4 _ rfl
  have c5 := hcell 5 _ rfl
  rw [Nat.mul_comm 6 k] at c0 c1 c2 c3 c4 c5
  exact ⟨b, off, e, hb, c0, c1, c2, c3, c4, c5, hlt⟩

/-- The powers of ten, as start-up laid them. -/
theorem tab_met {w : World} (h : laidMetH Tryd.prog Rows.plicSameRow.laid w) : Lib.TabIs Tryd.prog w "math/bits.deBruijn64tab" .u8 (Lib.deBruijn64tab.map fun (n : Nat) => (n : Int)) := by
  rw [MakeChecks.laidMetH_plain _ _ _ (by kernel_rfl)] at h
  have hm : ("math/bits.deBruijn64tab", DataW.agg ((Lib.deBruijn64tab.map fun (n : Nat) => (n : Int)).map fun z => .lit (.int .u8 z))) ∈ Rows.plicSameRow.laid := by simp [Rows.plicSameRow, Rows.laid_math_bits_deBruijn64tab, Lib.deBruijn64tab, List.range, List.range.loop]
  exact tabIs_of_laid (g := 2) h hm (by kernel_rfl) rfl rfl rfl (by kernel_rfl) (by kernel_rfl)
/-- The heap that start-up leaves meets the condition. -/
theorem door_met (H : Type) (os : Os) (args : Array Value) : laidMetH Tryd.prog Rows.plicSameRow.laid ((World.doorLaid Tryd.prog 400 os).forCall (fun _ _ => 0) ⟨#[], args, []⟩).memory :=
  laidMetH_of_parts3 (fuel := 8) (laidMet_of_run' 8 (by kernel_rfl) (by kernel_rfl)) (by kernel_rfl) (by kernel_rfl)
set_option maxRecDepth 100000 in
theorem law_lifted (os : Os) (started : os.Started) (H : Type) (enc : TypeId × Value → H) :
    ReturnsInHanded {} Tryd.checked os 4 .any (fun w args => (Rows.plicSameSpec.pre enc Tryd.prog Tryd.f4 [] false w args ∧ laidMetH Tryd.prog Rows.plicSameRow.laid w) ∧ sizedMet enc Tryd.prog Tryd.f4 (OpenSpec.ofChange Rows.plicSameSpec) false w args)
      (Rows.plicSameSpec.post enc Tryd.prog Tryd.f4 false true false false) := by
  refine returnsInHanded_of_change_and (C := Tryd.checked) (X := fun w _ => laidMetH Tryd.prog Rows.plicSameRow.laid w) (fun _ _ _ hh h => h.of_heap hh) Tryd.own started (by kernel_rfl) Tryd.func4
    (ChangeSpec.witness_shaped (enc := enc) (C := Tryd.checked) (os := os) (X := fun w _ => laidMetH Tryd.prog Rows.plicSameRow.laid w) false (World.doorLaid Tryd.prog 400 os) #[.slice none 0 0, .slice none 0 0] 8 rfl (World.shaped_of_RefB (by kernel_rfl) (by kernel_rfl)) (by kernel_rfl) (by kernel_rfl) (by kernel_rfl) (door_met H os _)) ?_
  intro W base args ds gs before hval0 hW _ _ hL _
  have hTab := tab_met hL
  have hval : ∀ (j : Nat) t v, Tryd.f4.params[j]? = some t → args[j]? = some v → Value.okWide Tryd.prog W .any base t v := hval0
  have hW' := hW
  obtain ⟨p, q, hA0, hV, rfl, hfz, hnd⟩ := hW
  have hA : DataW.TrodAll enc Tryd.prog W 0 (fun _ => true) true Tryd.f4.params.toList args.toList ds p := hA0
  obtain ⟨rfl, rfl⟩ := trodVars_none hV
  have hA2 := hA
  rw [Tryd.params4] at hA2
  obtain ⟨v0, vs0, d0, ds0, p0, q0, hargs, rfl, rfl, h0, r0⟩ := trodAll_cons hA2
  obtain ⟨v1, vs1, d1, ds1, p1, q1, rfl, rfl, rfl, h1, r1⟩ := trodAll_cons r0
  obtain ⟨rfl, rfl, rfl⟩ := trodAll_nil r1
  obtain rfl : args = #[v0, v1] := by cases args; simp_all
  obtain ⟨a0, len0, cap0, rfl⟩ := okWide_slice Tryd.underlying22 (hval 0 22 v0 (by rw [Tryd.params4]; rfl) rfl)
  obtain ⟨l0, hn0, hl0⟩ := Ro.rows_of (by decide) (Ro.open_rows Tryd.underlying22 (ks := [.num .u8, .num .i64, .boo, .num .u64, .num .u64, .num .i64]) (by kernel_rfl) h0)
  obtain ⟨a1, len1, cap1, rfl⟩ := okWide_slice Tryd.underlying22 (hval 1 22 v1 (by rw [Tryd.params4]; rfl) rfl)
  obtain ⟨l1, hn1, hl1⟩ := Ro.rows_of (by decide) (Ro.open_rows Tryd.underlying22 (ks := [.num .u8, .num .i64, .boo, .num .u64, .num .u64, .num .i64]) (by kernel_rfl) h1)
  clear hA0 hval0
  have walk : Calls Tryd.prog 4 #[.slice a0 len0 cap0, .slice a1 len1 cap1] W (Yes W) := by
    obtain ⟨l0, hl0⟩ := deeds_of hn0 hl0
    obtain ⟨l1, hl1⟩ := deeds_of hn1 hl1
    by_cases hg : len0 ≤ 40 ∧ len1 ≤ 40
    · exact same_all a0 len0 cap0 l0 hg.1 a1 len1 cap1 l1 hg.2 W hl0 hl1 (tz_of hTab)
    · exact same_long a0 len0 cap0 a1 len1 cap1 (by omega) W
  refine walk.mono fun e W' ⟨he, bel⟩ => ?_
  subst he
  exact ⟨_, rfl, _, _, _, [], _, [], hW', trodAll_mk1 (shut_bool Tryd.underlying4 _), Ro.trodAll_below Tryd.laidOut bel (by kernel_rfl) hA, rfl, bel.frame _, fun h => by cases h⟩

theorem law_over : Rows.plicSameRow.holds Tryd.pinned (OpenSpec.ofChange Rows.plicSameSpec) :=
  OpenClaim.holds_of_wide 4 Tryd.f4 rfl rfl rfl rfl rfl rfl rfl ⟨rfl, rfl, rfl, rfl, rfl⟩ rfl rfl rfl rfl rfl (by kernel_rfl) Tryd.func4 (by kernel_rfl)
    (of_decide_eq_true (by kernel_rfl)) (by unfold Func.isWrapper; first | (rw [if_pos (by decide +kernel)]; kernel_rfl) | (rw [if_neg (by decide +kernel)]; exact ⟨rfl, rfl⟩))
    (fun os started H enc _ => law_lifted os started H enc)

theorem plicSame_holds : Rows.PlicSameCardSaid :=
  Claim7.holds_tied_plain_at .later [] [.data, .data, .data] true (true, "0143cc1de6c03e59fa0b237805e8bc21120f5fecd9b7cc779977d0b70b5ea20b") false
    law_over (fun _ h => by cases h) (by kernel_rfl) (fun _ h => by cases h) plicSame_row_tie rfl ⟨rfl, rfl⟩ (by kernel_rfl) rfl
    (fun f fn hf hfn => by
      obtain rfl : f = 4 := Option.some.inj ((show Tryd.prog.funcNamed "almonry/almonrylaw14.PlicSame" = some 4 by kernel_rfl).symm.trans hf) |>.symm
      obtain rfl : fn = Tryd.f4 := (Option.some.inj (Tryd.func4.symm.trans hfn)).symm
      exact ⟨by kernel_rfl, fun j t ht => by
        rw [Tryd.params4] at ht
        rcases j with _ | _ | _ <;> simp at ht <;> (subst ht; kernel_rfl)⟩)
    (by kernel_rfl)
end Go.Proofs.YtlgefljbhbefgaaDoor
