/- RamSame: of any arguments the law answers true, and leaves them as they were. -/
import Derived.Test.YtjdedgfbonlmkaaDr
import Derived.Test.YtjdedgfbonlmkaaRo
import Derived.ChangeMaps5
import Derived.OpenShut
set_option linter.unusedVariables false
set_option linter.unusedSimpArgs false
namespace Go.Proofs.Ytjdedgfbonlmkaa
open Go.ChangeShapes Go.WideShapes Go.ChangeAt Go.RowKit Go.ChangeMaps

theorem Try.own : ownKnob Try.prog.godebug = none := by kernel_rfl
theorem Try.laidOut : laidOutB Try.prog = true := by kernel_rfl
/-- An array of two places, each of one cell. -/
theorem open_two {H : Type} {enc : TypeId × Value → H} {P : Program} {W : World} {b0 base : Nat} {r : Reach} {sp : Nat → Bool} {held : Bool} {t el : TypeId} (hu : P.underlying t = some (.array 2 el)) (hc : P.cellsOf el = 1) (hc2 : P.cellsOf t = 2)
    {v : Value} {d : DataW H} {p : List MemPlace} (hok : Value.okWide P W r b0 t v) (h : DataW.Trod enc P W base sp held t v d p) : ∃ x y, v = .agg #[x, y] ∧ (∃ m z, DataW.trod enc P W base sp held m el [x] = some z) ∧ (∃ m z, DataW.trod enc P W base sp held m el [y] = some z) := by
  simp only [Value.okWide, hu] at hok
  obtain ⟨⟨cs⟩, rfl, h2, _⟩ := hok
  rw [hc2] at h2
  match cs, h2 with
  | [x, y], _ =>
    obtain ⟨fuel, hf⟩ := h
    obtain ⟨xs, m, _, _, _, hx, he⟩ := DataW.trod_array hu hf
    have e0 := he 0 (by omega)
    have e1 := he 1 (by omega)
    rw [hc] at e0 e1
    rw [List.getElem?_eq_getElem (by omega)] at e0 e1
    exact ⟨x, y, rfl, ⟨m, _, e0⟩, ⟨m, _, e1⟩⟩
/-- A row of deeds, out of its cells. -/
theorem deeds_of {W : World} {a : Option Addr} {len : Nat} {l : List (List Value)} (hn : l.length = len) (h : ∀ (k : Nat) (cs : List Value), l[k]? = some cs → Ro.Leaves [.num .u8, .num .u64, .num .u64, .num .i64, .str] cs ∧ ∃ b off, a = some ⟨b, off, none⟩ ∧ b < W.heap.size ∧ ∀ (j : Nat) (v : Value), cs[j]? = some v → W.cell? ⟨b, off + 5 * k + j, none⟩ = some v) : ∃ l, IsDeeds W a len l := by
  have each : ∀ cs : List Value, ∃ f : Deed, Ro.Leaves [.num .u8, .num .u64, .num .u64, .num .i64, .str] cs → cs = [.int .u8 f.k, .int .u64 f.a, .int .u64 f.v, .int .i64 f.wd, .string f.s] ∧ f.k < 256 ∧ f.a < 18446744073709551616 ∧ f.v < 18446744073709551616 ∧ -9223372036854775808 ≤ f.wd ∧ f.wd ≤ 9223372036854775807 := fun cs => by
    by_cases hc : Ro.Leaves [.num .u8, .num .u64, .num .u64, .num .i64, .str] cs
    · obtain ⟨v, r, rfl, ⟨z, rfl, wf⟩, v1, r1, rfl, ⟨z1, rfl, wf1⟩, v2, r2, rfl, ⟨z2, rfl, wf2⟩, v3, r3, rfl, ⟨z3, rfl, wf3⟩, v4, r4, rfl, ⟨s, rfl, hs⟩, rfl⟩ := hc
      obtain ⟨n, rfl, hn⟩ := Ro.wf_u8 wf
      obtain ⟨n1, rfl, hn1⟩ := Ro.wf_u64 wf1
      obtain ⟨n2, rfl, hn2⟩ := Ro.wf_u64 wf2
      have h3 := Ro.wf_i64 wf3
      exact ⟨⟨n, n1, n2, z3, s⟩, fun _ => ⟨rfl, hn, hn1, hn2, h3.1, h3.2⟩⟩
    · exact ⟨⟨0, 0, 0, 0, ByteArray.empty⟩, fun h => absurd h hc⟩
  obtain ⟨g, hg⟩ := Classical.axiomOfChoice each
  refine ⟨l.map g, by simpa using hn, fun k f hf => ?_⟩
  rw [List.getElem?_map, Option.map_eq_some_iff] at hf
  obtain ⟨cs, hcs, rfl⟩ := hf
  obtain ⟨hl, b, off, e, hb, hcell⟩ := h k cs hcs
  obtain ⟨e2, hlt⟩ := hg cs hl
  rw [e2] at hcell
  exact ⟨b, off, e, hb, hcell 0 _ rfl, hcell 1 _ rfl, hcell 2 _ rfl, hcell 3 _ rfl, hcell 4 _ rfl, hlt⟩

set_option maxRecDepth 100000 in
theorem law_lifted (os : Os) (started : os.Started) (H : Type) (enc : TypeId × Value → H) :
    ReturnsInHanded {} Try.checked os 4 .any (Rows.ramSameSpec.pre6 enc Try.prog Try.f4 Rows.ramSameRow.domain false) (Rows.ramSameSpec.post enc Try.prog Try.f4 false true false false) := by
  refine returnsInHanded_of_change (C := Try.checked) Try.own started (by kernel_rfl) Try.func4
    (ChangeSpec.witness6 (enc := enc) (C := Try.checked) false ⟨#[], #[.slice none 0 0, .slice none 0 0, .agg #[.int .u8 0, .int .u8 0]], []⟩ 8 (by kernel_rfl) (by kernel_rfl) (by kernel_rfl) (by kernel_rfl)) ?_
  intro W base args ds gs before hval0 hW hcnd _
  have hW' := hW
  obtain ⟨p, q, hA0, hV, rfl, hfz, hnd⟩ := hW
  have hA : DataW.TrodAll enc Try.prog W 0 (fun _ => true) true Try.f4.params.toList args.toList ds p := hA0
  have hval : ∀ (j : Nat) t v, Try.f4.params[j]? = some t → args[j]? = some v → Value.okWide Try.prog W .any base t v := hval0
  obtain ⟨rfl, rfl⟩ := trodVars_none hV
  have hA2 := hA
  rw [Try.params4] at hA2
  obtain ⟨v0, vs0, d0, ds0, p0, q0, hargs, rfl, rfl, h0, r0⟩ := trodAll_cons hA2
  obtain ⟨v1, vs1, d1, ds1, p1, q1, rfl, rfl, rfl, h1, r1⟩ := trodAll_cons r0
  obtain ⟨v2, vs2, d2, ds2, p2, q2, rfl, rfl, rfl, h2, r2⟩ := trodAll_cons r1
  obtain ⟨rfl, rfl, rfl⟩ := trodAll_nil r2
  obtain rfl : args = #[v0, v1, v2] := by cases args; simp_all
  obtain ⟨a0, len0, cap0, rfl⟩ := okWide_slice Try.underlying22 (hval 0 22 v0 (by rw [Try.params4]; rfl) rfl)
  obtain ⟨a1, len1, cap1, rfl⟩ := okWide_slice Try.underlying22 (hval 1 22 v1 (by rw [Try.params4]; rfl) rfl)
  obtain ⟨l0, hn0, hl0⟩ := Ro.rows_of (by decide) (Ro.open_rows Try.underlying22 (ks := [.num .u8, .num .u64, .num .u64, .num .i64, .str]) (by kernel_rfl) h0)
  obtain ⟨l1, hn1, hl1⟩ := Ro.rows_of (by decide) (Ro.open_rows Try.underlying22 (ks := [.num .u8, .num .u64, .num .u64, .num .i64, .str]) (by kernel_rfl) h1)
  obtain ⟨x0, y0, rfl, ⟨f0, t0, hx0⟩, ⟨f1, t1, hy0⟩⟩ := open_two Try.underlying47 (by kernel_rfl) (by kernel_rfl) (hval 2 47 v2 (by rw [Try.params4]; rfl) rfl) h2
  obtain ⟨z0, e0, _, wf0⟩ := DataW.trod_int Try.underlying5 hx0
  obtain ⟨z1, e1, _, wf1⟩ := DataW.trod_int Try.underlying5 hy0
  obtain rfl : x0 = .int .u8 z0 := by simpa using e0
  obtain rfl : y0 = .int .u8 z1 := by simpa using e1
  clear hA0 hval0
  have walk : Calls Try.prog 4 #[.slice a0 len0 cap0, .slice a1 len1 cap1, .agg #[.int .u8 z0, .int .u8 z1]] W (Yes W) := by
    obtain ⟨m0, rfl, hm0⟩ := Ro.wf_u8 wf0
    obtain ⟨m1, rfl, hm1⟩ := Ro.wf_u8 wf1
    obtain ⟨la, hla⟩ := deeds_of hn0 hl0
    obtain ⟨lb, hlb⟩ := deeds_of hn1 hl1
    exact same_any m0 m1 hm0 hm1 a0 len0 cap0 a1 len1 cap1 la lb W hla hlb
  refine walk.mono fun e W' ⟨he, bel⟩ => ?_
  subst he
  exact ⟨_, rfl, _, _, _, [], _, [], hW', trodAll_mk1 (shut_bool Try.underlying4 _), Ro.trodAll_below Try.laidOut bel (by kernel_rfl) hA, rfl, bel.frame _, fun h => by cases h⟩

theorem law_over : Rows.ramSameRow.holds Try.pinned (OpenSpec.ofChange Rows.ramSameSpec) :=
  OpenClaim.holds_of_wide 4 Try.f4 rfl rfl rfl rfl rfl rfl rfl ⟨rfl, rfl, rfl, rfl, rfl⟩ rfl rfl rfl rfl rfl (by kernel_rfl) Try.func4 (by kernel_rfl)
    (of_decide_eq_true (by kernel_rfl)) (by unfold Func.isWrapper; first | (rw [if_pos (by decide +kernel)]; kernel_rfl) | (rw [if_neg (by decide +kernel)]; exact ⟨rfl, rfl⟩))
    (fun os started H enc _ => law_lifted os started H enc)

theorem ramSame_holds : Rows.RamSameSaid := law_over
end Go.Proofs.Ytjdedgfbonlmkaa
