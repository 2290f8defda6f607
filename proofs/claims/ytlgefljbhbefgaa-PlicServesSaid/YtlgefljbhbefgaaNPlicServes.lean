/- PlicServes: of any arguments the law answers true, and leaves them as they were. -/
import Derived.Test.YtlgefljbhbefgaaNb
import Derived.Test.YtlgefljbhbefgaaRo
import Derived.ChangeMaps5
import Derived.JoinedOf
set_option linter.unusedVariables false
set_option linter.unusedSimpArgs false
namespace Go.Proofs.Ytlgefljbhbefgaa
open Go.ChangeShapes Go.WideShapes Go.ChangeAt Go.RowKit Go.ChangeMaps

theorem Try.own : ownKnob Try.prog.godebug = none := by kernel_rfl
theorem Try.laidOut : laidOutB Try.prog = true := by kernel_rfl
/-- A row of deeds, out of its cells. -/
theorem deeds_of {W : World} {a : Option Addr} {len : Nat} {l : List (List Value)} (hn : l.length = len) (h : ∀ (k : Nat) (cs : List Value), l[k]? = some cs → Ro.Leaves [.num .u8, .num .i64, .boo, .num .u64, .num .u64, .num .i64] cs ∧ ∃ b off, a = some ⟨b, off, none⟩ ∧ b < W.heap.size ∧ ∀ (j : Nat) (v : Value), cs[j]? = some v → W.cell? ⟨b, off + 6 * k + j, none⟩ = some v) : ∃ l, IsDeeds W a len l := by
  have each : ∀ cs : List Value, ∃ f : Deed, Ro.Leaves [.num .u8, .num .i64, .boo, .num .u64, .num .u64, .num .i64] cs → cs = [.int .u8 f.k, .int .i64 f.n, .bool f.hi, .int .u64 f.off, .int .u64 f.v, .int .i64 f.wd] ∧ f.k < 256 ∧ f.off < 18446744073709551616 ∧ f.v < 18446744073709551616 ∧ f.n ≤ 9223372036854775807 := fun cs => by
    by_cases hc : Ro.Leaves [.num .u8, .num .i64, .boo, .num .u64, .num .u64, .num .i64] cs
    · obtain ⟨v, r, rfl, ⟨z, rfl, wf⟩, v2, r2, rfl, ⟨z2, rfl, wf2⟩, v3, r3, rfl, ⟨z3, rfl⟩, v4, r4, rfl, ⟨z4, rfl, wf4⟩, v5, r5, rfl, ⟨z5, rfl, wf5⟩, v6, r6, rfl, ⟨z6, rfl, wf6⟩, rfl⟩ := hc
      obtain ⟨n, rfl, hn⟩ := Ro.wf_u8 wf
      obtain ⟨n4, rfl, hn4⟩ := Ro.wf_u64 wf4
      obtain ⟨n5, rfl, hn5⟩ := Ro.wf_u64 wf5
      exact ⟨⟨n, z2, z3, n4, n5, z6⟩, fun _ => ⟨rfl, hn, hn4, hn5, (Ro.wf_i64 wf2).2⟩⟩
    · exact ⟨⟨0, 0, false, 0, 0, 0⟩, fun h => absurd h hc⟩
  obtain ⟨g, hg⟩ := Classical.axiomOfChoice each
  refine ⟨l.map g, by simpa using hn, fun k f hf => ?_⟩
  rw [List.getElem?_map, Option.map_eq_some_iff] at hf
  obtain ⟨cs, hcs, rfl⟩ := hf
  obtain ⟨hl, b, off, e, hb, hcell⟩ := h k cs hcs
  obtain ⟨e2, hlt⟩ := hg cs hl
  rw [e2] at hcell
  have c0 := hcell 0 _ rfl
  have c1 := hcell 1 _ rfl
  have c2 := hcell 2 _ rfl
  have c3 := hcell 3 _ rfl
  have c4 := hcell 4 _ rfl
  have c5 := hcell 5 _ rfl
  rw [Nat.mul_comm 6 k] at c0 c1 c2 c3 c4 c5
  exact ⟨b, off, e, hb, c0, c1, c2, c3, c4, c5, hlt⟩

set_option maxRecDepth 100000 in
theorem law_lifted (os : Os) (started : os.Started) (H : Type) (enc : TypeId × Value → H) :
    ReturnsInHanded {} Try.checked os 3 .any (Rows.plicServesSpec.pre6 enc Try.prog Try.f3 Rows.plicServesRow.domain false) (Rows.plicServesSpec.post enc Try.prog Try.f3 false true false false) := by
  refine returnsInHanded_of_change (C := Try.checked) Try.own started (by kernel_rfl) Try.func3
    (ChangeSpec.witness6 (enc := enc) (C := Try.checked) false ⟨#[], #[.slice none 0 0], []⟩ 8 (by kernel_rfl) (by kernel_rfl) (by kernel_rfl) (by kernel_rfl)) ?_
  intro W base args ds gs before hval0 hW hcnd _
  have hW' := hW
  obtain ⟨p, q, hA0, hV, rfl, hfz, hnd⟩ := hW
  have hA : DataW.TrodAll enc Try.prog W 0 (fun _ => true) true Try.f3.params.toList args.toList ds p := hA0
  have hval : ∀ (j : Nat) t v, Try.f3.params[j]? = some t → args[j]? = some v → Value.okWide Try.prog W .any base t v := hval0
  obtain ⟨rfl, rfl⟩ := trodVars_none hV
  have hA2 := hA
  rw [Try.params3] at hA2
  obtain ⟨v0, vs0, d0, ds0, p0, q0, hargs, rfl, rfl, h0, r0⟩ := trodAll_cons hA2
  obtain ⟨rfl, rfl, rfl⟩ := trodAll_nil r0
  obtain rfl : args = #[v0] := by cases args; simp_all
  obtain ⟨a0, len0, cap0, rfl⟩ := okWide_slice Try.underlying22 (hval 0 22 v0 (by rw [Try.params3]; rfl) rfl)
  obtain ⟨l0, hn0, hl0⟩ := Ro.rows_of (by decide) (Ro.open_rows Try.underlying22 (ks := [.num .u8, .num .i64, .boo, .num .u64, .num .u64, .num .i64]) (by kernel_rfl) h0)
  clear hA0 hval0
  have walk : Calls Try.prog 3 #[.slice a0 len0 cap0] W (Yes W) := by
    obtain ⟨l0, hl0⟩ := deeds_of hn0 hl0
    by_cases hg : len0 ≤ 60
    · exact serves_all a0 len0 cap0 l0 hg W hl0
    · exact serves_long a0 len0 cap0 (by omega) W
  refine walk.mono fun e W' ⟨he, bel⟩ => ?_
  subst he
  exact ⟨_, rfl, _, _, _, [], _, [], hW', trodAll_mk1 (shut_bool Try.underlying4 _), Ro.trodAll_below Try.laidOut bel (by kernel_rfl) hA, rfl, bel.frame _, fun h => by cases h⟩

theorem law_over : Rows.plicServesRow.holds Try.pinned (OpenSpec.ofChange Rows.plicServesSpec) :=
  OpenClaim.holds_of_wide 3 Try.f3 rfl rfl rfl rfl rfl rfl rfl ⟨rfl, rfl, rfl, rfl, rfl⟩ rfl rfl rfl rfl rfl (by kernel_rfl) Try.func3 (by kernel_rfl)
    (of_decide_eq_true (by kernel_rfl)) (by unfold Func.isWrapper; first | (rw [if_pos (by decide +kernel)]; kernel_rfl) | (rw [if_neg (by decide +kernel)]; exact ⟨rfl, rfl⟩))
    (fun os started H enc _ => law_lifted os started H enc)

theorem plicServes_holds : Rows.PlicServesSaid := law_over
end Go.Proofs.Ytlgefljbhbefgaa
