/- RamPlays: of any arguments the law answers true, and leaves them as they were. -/
import Derived.Test.YtjdedgfbonlmkaaDn
import Derived.Test.YtjdedgfbonlmkaaRo
import Derived.ChangeMaps5
set_option linter.unusedVariables false
set_option linter.unusedSimpArgs false
namespace Go.Proofs.Ytjdedgfbonlmkaa
open Go.ChangeShapes Go.WideShapes Go.ChangeAt Go.RowKit Go.ChangeMaps

theorem Try.own : ownKnob Try.prog.godebug = none := by kernel_rfl
theorem Try.laidOut : laidOutB Try.prog = true := by kernel_rfl
/-- A row of deeds, out of its cells. -/
theorem deeds_of {W : World} {a : Option Addr} {len : Nat} {l : List (List Value)} (hn : l.length = len) (h : ∀ (k : Nat) (cs : List Value), l[k]? = some cs → Ro.Leaves [.num .u8, .num .u64, .num .u64, .num .i64, .str] cs ∧ ∃ b off, a = some ⟨b, off, none⟩ ∧ b < W.heap.size ∧ ∀ (j : Nat) (v : Value), cs[j]? = some v → W.cell? ⟨b, off + 5 * k + j, none⟩ = some v) : ∃ l, IsDeeds W a len l := by
  have each : ∀ cs : List Value, ∃ f : Deed, Ro.Leaves [.num .u8, .num .u64, .num .u64, .num .i64, .str] cs → cs = [.int .u8 f.k, .int .u64 f.a, .int .u64 f.v, .int .i64 f.wd, .string f.s] ∧ f.k < 256 ∧ f.a < 18446744073709551616 ∧ f.v < 18446744073709551616 ∧ -9223372036854775808 ≤ f.wd ∧ f.wd ≤ 9223372036854775807 := fun cs => by
    by_cases hc : Ro.Leaves [.num .u8, .num .u64, .num .u64, .num .i64, .str] cs
    · obtain ⟨v, r, rfl, ⟨z, rfl, wf⟩, v1, r1, rfl, ⟨z1, rfl, wf1⟩, v2, r2, rfl, ⟨z2, rfl, wf2⟩, v3, r3, rfl, ⟨z3, rfl, wf3⟩, v4, r4, rfl, ⟨s, rfl, hs⟩, rfl⟩ := hc
      obtain ⟨n, rfl, hn⟩ := Ro.wf_u8 wf
      obtain ⟨n1, rfl, hn1⟩ := Ro.wf_u64 wf1
      obtain ⟨n2, rfl, hn2⟩ := Ro.wf_u64 wf2
      have h3 := Ro.wf_i64 wf3
      exact ⟨⟨n, n1, n2, z3, s⟩, fun _ => ⟨rfl, hn, hn1, hn2, h3.1, h3.2⟩⟩
    · exact ⟨⟨0, 0, 0, 0, ByteArray.empty⟩, fun h => absurd h hc⟩
  obtain ⟨g, hg⟩ := Classical.axiomOfChoice each
  refine ⟨l.map g, by simpa using hn, fun k f hf => ?_⟩
  rw [List.getElem?_map, Option.map_eq_some_iff] at hf
  obtain ⟨cs, hcs, rfl⟩ := hf
  obtain ⟨hl, b, off, e, hb, hcell⟩ := h k cs hcs
  obtain ⟨e2, hlt⟩ := hg cs hl
  rw [e2] at hcell
  exact ⟨b, off, e, hb, hcell 0 _ rfl, hcell 1 _ rfl, hcell 2 _ rfl, hcell 3 _ rfl, hcell 4 _ rfl, hlt⟩

set_option maxRecDepth 100000 in
theorem law_lifted (os : Os) (started : os.Started) (H : Type) (enc : TypeId × Value → H) :
    ReturnsInHanded {} Try.checked os 3 .any (Rows.ramPlaysSpec.pre6 enc Try.prog Try.f3 Rows.ramPlaysRow.domain false) (Rows.ramPlaysSpec.post enc Try.prog Try.f3 false true false false) := by
  refine returnsInHanded_of_change (C := Try.checked) Try.own started (by kernel_rfl) Try.func3
    (ChangeSpec.witness6 (enc := enc) (C := Try.checked) false ⟨#[], #[.int .u8 0, .slice none 0 0], []⟩ 8 (by kernel_rfl) (by kernel_rfl) (by kernel_rfl) (by kernel_rfl)) ?_
  intro W base args ds gs before hval0 hW hcnd _
  have hW' := hW
  obtain ⟨p, q, hA0, hV, rfl, hfz, hnd⟩ := hW
  have hA : DataW.TrodAll enc Try.prog W 0 (fun _ => true) true Try.f3.params.toList args.toList ds p := hA0
  have hval : ∀ (j : Nat) t v, Try.f3.params[j]? = some t → args[j]? = some v → Value.okWide Try.prog W .any base t v := hval0
  obtain ⟨rfl, rfl⟩ := trodVars_none hV
  have hA2 := hA
  rw [Try.params3] at hA2
  obtain ⟨v0, vs0, d0, ds0, p0, q0, hargs, rfl, rfl, h0, r0⟩ := trodAll_cons hA2
  obtain ⟨v1, vs1, d1, ds1, p1, q1, rfl, rfl, rfl, h1, r1⟩ := trodAll_cons r0
  obtain ⟨rfl, rfl, rfl⟩ := trodAll_nil r1
  obtain rfl : args = #[v0, v1] := by cases args; simp_all
  obtain ⟨z0, rfl, _, _, wf0⟩ := open_int Try.underlying5 (hval 0 5 v0 (by rw [Try.params3]; rfl) rfl) h0
  obtain ⟨a2, len2, cap2, rfl⟩ := okWide_slice Try.underlying22 (hval 1 22 v1 (by rw [Try.params3]; rfl) rfl)
  obtain ⟨l2, hn2, hl2⟩ := Ro.rows_of (by decide) (Ro.open_rows Try.underlying22 (ks := [.num .u8, .num .u64, .num .u64, .num .i64, .str]) (by kernel_rfl) h1)
  clear hA0 hval0
  have walk : Calls Try.prog 3 #[.int .u8 z0, .slice a2 len2 cap2] W (Yes W) := by
    obtain ⟨p, rfl, hp⟩ := Ro.wf_u8 wf0
    obtain ⟨l, hl⟩ := deeds_of hn2 hl2
    by_cases hg : 1 ≤ p ∧ p ≤ 16
    · exact plays_ok p a2 len2 cap2 l hg.1 hg.2 W hl
    · exact plays_bad p hp a2 len2 cap2 hg W
  refine walk.mono fun e W' ⟨he, bel⟩ => ?_
  subst he
  exact ⟨_, rfl, _, _, _, [], _, [], hW', trodAll_mk1 (shut_bool Try.underlying4 _), Ro.trodAll_below Try.laidOut bel (by kernel_rfl) hA, rfl, bel.frame _, fun h => by cases h⟩

theorem law_over : Rows.ramPlaysRow.holds Try.pinned (OpenSpec.ofChange Rows.ramPlaysSpec) :=
  OpenClaim.holds_of_wide 3 Try.f3 rfl rfl rfl rfl rfl rfl rfl ⟨rfl, rfl, rfl, rfl, rfl⟩ rfl rfl rfl rfl rfl (by kernel_rfl) Try.func3 (by kernel_rfl)
    (of_decide_eq_true (by kernel_rfl)) (by unfold Func.isWrapper; first | (rw [if_pos (by decide +kernel)]; kernel_rfl) | (rw [if_neg (by decide +kernel)]; exact ⟨rfl, rfl⟩))
    (fun os started H enc _ => law_lifted os started H enc)

theorem ramPlays_holds : Rows.RamPlaysSaid := law_over
end Go.Proofs.Ytjdedgfbonlmkaa
