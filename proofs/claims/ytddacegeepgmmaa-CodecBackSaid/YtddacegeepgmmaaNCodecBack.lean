/- CodecBack: of any row of fields, cut at any place, the law answers true: what was put is taken as it was. -/
import Derived.Test.YtddacegeepgmmaaM
import Derived.Test.YtddacegeepgmmaaUd
import Derived.ChangeMaps5
set_option linter.unusedVariables false
set_option linter.unusedSimpArgs false
namespace Go.Proofs.Ytddacegeepgmmaa
open Go.ChangeShapes Go.WideShapes Go.ChangeAt Go.RowKit Go.ChangeMaps

theorem Try.own : ownKnob Try.prog.godebug = none := by kernel_rfl
theorem Try.laidOut : laidOutB Try.prog = true := by kernel_rfl
/-- A row of fields, out of its cells. -/
theorem flds_of {W : World} {a : Option Addr} {len cap : Nat} (h : Sx.IsRow [some .u64, some .i64] W a len cap) : ∃ l, IsFlds W a len l := by
  rcases h with ⟨rfl, rfl, rfl⟩ | ⟨a', rfl, _, hc⟩
  · exact ⟨[], rfl, fun k f hf => by simp at hf⟩
  · obtain ⟨b, off, spot⟩ := a'
    have hadd : ∀ j, (⟨b, off, none⟩ : Addr).add j = ⟨b, off + j, none⟩ := by
      intro j; unfold Addr.add; split <;> simp_all
    have hs : 0 < len → spot = none := fun h => by
      obtain ⟨v, h0, _⟩ := hc 0 h 0 _ rfl
      have := World.cell?_spot h0
      simpa [Addr.add] using this
    have each : ∀ r, ∃ f : Fld, r < len → ∃ b' off', (⟨b, off, spot⟩ : Addr) = ⟨b', off', none⟩ ∧ b' < W.heap.size ∧ W.cell? ⟨b', off' + 2 * r, none⟩ = some (.int .u64 f.n) ∧ W.cell? ⟨b', off' + 2 * r + 1, none⟩ = some (.int .i64 f.v) ∧ f.n < 18446744073709551616 := by
      intro r
      by_cases hr : r < len
      · obtain ⟨v0, h0, l0⟩ := hc r hr 0 _ rfl
        obtain ⟨v1, h1, l1⟩ := hc r hr 1 _ rfl
        obtain ⟨z0, rfl, q0⟩ := l0
        obtain ⟨z1, rfl, q1⟩ := l1
        have hspot := hs (by omega)
        subst hspot
        simp only [List.length_cons, List.length_nil] at h0 h1
        rw [hadd] at h0 h1
        have hb := World.block_lt_of_cell? _ _ h1
        have b0 : 0 ≤ z0 ∧ z0 ≤ 18446744073709551615 := by simpa [Lit.wf, IntKind.min, IntKind.max, IntKind.signed, IntKind.bits] using q0
        refine ⟨⟨z0.toNat, z1⟩, fun _ => ⟨b, off, rfl, hb, ?_, ?_, by show z0.toNat < _; omega⟩⟩
        · have e : off + 2 * r = off + (r * (0 + 1 + 1) + 0) := by omega
          have t : ((z0.toNat : Nat) : Int) = z0 := by omega
          show W.cell? ⟨b, off + 2 * r, none⟩ = some (.int .u64 ((z0.toNat : Nat) : Int))
          rw [e, t]; exact h0
        · have e : off + 2 * r + 1 = off + (r * (0 + 1 + 1) + 1) := by omega
          rw [e]; exact h1
      · exact ⟨⟨0, 0⟩, fun h => absurd h hr⟩
    obtain ⟨g, hg⟩ := Classical.axiomOfChoice each
    refine ⟨(List.range len).map g, by simp, fun k f hf => ?_⟩
    have hk : k < len := by
      have := (List.getElem?_eq_some_iff.1 hf).1
      simpa using this
    rw [List.getElem?_map, List.getElem?_range hk] at hf
    cases hf
    obtain ⟨b', off', e, r⟩ := hg k hk
    exact ⟨b', off', by rw [e], r⟩

set_option maxRecDepth 100000 in
theorem law_lifted (os : Os) (started : os.Started) (H : Type) (enc : TypeId × Value → H) :
    ReturnsInHanded {} Try.checked os 5 .any (Rows.codecBackSpec.pre6 enc Try.prog Try.f5 Rows.codecBackRow.domain false) (Rows.codecBackSpec.post enc Try.prog Try.f5 false true false false) := by
  refine returnsInHanded_of_change (C := Try.checked) Try.own started (by kernel_rfl) Try.func5
    (ChangeSpec.witness6 (enc := enc) (C := Try.checked) false ⟨#[], #[.slice none 0 0, .int .u16 0], []⟩ 8 (by kernel_rfl) (by kernel_rfl) (by kernel_rfl) (by kernel_rfl)) ?_
  intro W base args ds gs before hval0 hW hcnd _
  have hW' := hW
  obtain ⟨p, q, hA0, hV, rfl, hfz, hnd⟩ := hW
  have hA : DataW.TrodAll enc Try.prog W 0 (fun _ => true) true Try.f5.params.toList args.toList ds p := hA0
  have hval : ∀ (j : Nat) t v, Try.f5.params[j]? = some t → args[j]? = some v → Value.okWide Try.prog W .any base t v := hval0
  obtain ⟨rfl, rfl⟩ := trodVars_none hV
  have hA2 := hA
  rw [Try.params5] at hA2
  obtain ⟨v0, vs0, d0, ds0, p0, q0, hargs, rfl, rfl, h0, r0⟩ := trodAll_cons hA2
  obtain ⟨v1, vs1, d1, ds1, p1, q1, rfl, rfl, rfl, h1, r1⟩ := trodAll_cons r0
  obtain ⟨rfl, rfl, rfl⟩ := trodAll_nil r1
  obtain rfl : args = #[v0, v1] := by cases args; simp_all
  have hv0 := hval 0 22 v0 (by rw [Try.params5]; rfl) rfl
  obtain ⟨sa, len, cap, rfl⟩ := okWide_slice Try.underlying22 hv0
  obtain ⟨l, hl⟩ := flds_of (Sx.open_rows Try.underlying22 (ks := [some .u64, some .i64]) (by kernel_rfl) h0)
  obtain ⟨c0, rfl, _, _, hc0⟩ := open_int Try.underlying46 (hval 1 46 v1 (by rw [Try.params5]; rfl) rfl) h1
  have hc1 : 0 ≤ c0 ∧ c0 ≤ 65535 := by simpa [Lit.wf, IntKind.min, IntKind.max, IntKind.signed, IntKind.bits] using hc0
  obtain ⟨c, rfl⟩ : ∃ c : Nat, c0 = c := ⟨c0.toNat, by omega⟩
  have hc : c < 65536 := by omega
  clear hc0 hc1
  clear hA0 hval0
  have walk : Calls Try.prog 5 #[.slice sa len cap, .int .u16 c] W (Yes W) := by
    by_cases g1 : 100 < len
    · exact back_long sa len cap c g1 W
    · exact back_any sa len cap c hc l (by omega) W hl
  refine walk.mono fun e W' ⟨he, bel⟩ => ?_
  subst he
  exact ⟨_, rfl, _, _, _, [], _, [], hW', trodAll_mk1 (shut_bool Try.underlying4 _), Sx.trodAll_below Try.laidOut bel (by kernel_rfl) hA, rfl, bel.frame _, fun h => by cases h⟩

theorem law_over : Rows.codecBackRow.holds Try.pinned (OpenSpec.ofChange Rows.codecBackSpec) :=
  OpenClaim.holds_of_wide 5 Try.f5 rfl rfl rfl rfl rfl rfl rfl ⟨rfl, rfl, rfl, rfl, rfl⟩ rfl rfl rfl rfl rfl (by kernel_rfl) Try.func5 (by kernel_rfl)
    (of_decide_eq_true (by kernel_rfl)) (by unfold Func.isWrapper; first | (rw [if_pos (by decide +kernel)]; kernel_rfl) | (rw [if_neg (by decide +kernel)]; exact ⟨rfl, rfl⟩))
    (fun os started H enc _ => law_lifted os started H enc)

theorem codecBack_holds : Rows.CodecBackSaid := law_over
end Go.Proofs.Ytddacegeepgmmaa
