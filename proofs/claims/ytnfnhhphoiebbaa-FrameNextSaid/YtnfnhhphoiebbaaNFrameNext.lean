/- FrameNext: of any arguments the law answers true, and leaves them as they were. -/
import Derived.Test.YtnfnhhphoiebbaaFt
import Derived.Test.YtnfnhhphoiebbaaRo
import Derived.ChangeMaps5
set_option linter.unusedVariables false
set_option linter.unusedSimpArgs false
namespace Go.Proofs.Ytnfnhhphoiebbaa
open Go.ChangeShapes Go.WideShapes Go.ChangeAt Go.RowKit Go.ChangeMaps

theorem Try.own : ownKnob Try.prog.godebug = none := by kernel_rfl
theorem Try.laidOut : laidOutB Try.prog = true := by kernel_rfl
theorem wf_u16 {z : Int} (h : (Lit.int .u16 z).wf = true) : ∃ n : Nat, z = n ∧ n < 65536 := by
  have h := Ro.wf_bd h
  have h1 : (0 : Int) ≤ z := h.1
  have h2 : z ≤ 65535 := h.2
  exact ⟨z.toNat, by omega, by omega⟩
/-- A row of windows, out of its cells. -/
theorem wins_of {W : World} {a : Option Addr} {len : Nat} {l : List (List Value)} (hn : l.length = len) (h : ∀ (k : Nat) (cs : List Value), l[k]? = some cs → Ro.Leaves [.num .u8, .num .u16] cs ∧ ∃ b off, a = some ⟨b, off, none⟩ ∧ b < W.heap.size ∧ ∀ (j : Nat) (v : Value), cs[j]? = some v → W.cell? ⟨b, off + 2 * k + j, none⟩ = some v) : ∃ l, IsWins W a len l := by
  have each : ∀ cs : List Value, ∃ f : Win, Ro.Leaves [.num .u8, .num .u16] cs → cs = [.int .u8 f.1, .int .u16 f.2] ∧ f.1 < 256 ∧ f.2 < 65536 := fun cs => by
    by_cases hc : Ro.Leaves [.num .u8, .num .u16] cs
    · obtain ⟨v, r, rfl, ⟨z, rfl, wf⟩, v1, r1, rfl, ⟨z1, rfl, wf1⟩, rfl⟩ := hc
      obtain ⟨n, rfl, hn⟩ := Ro.wf_u8 wf
      obtain ⟨n1, rfl, hn1⟩ := wf_u16 wf1
      exact ⟨(n, n1), fun _ => ⟨rfl, hn, hn1⟩⟩
    · exact ⟨(0, 0), fun h => absurd h hc⟩
  obtain ⟨g, hg⟩ := Classical.axiomOfChoice each
  refine ⟨l.map g, by simpa using hn, fun k f hf => ?_⟩
  rw [List.getElem?_map, Option.map_eq_some_iff] at hf
  obtain ⟨cs, hcs, rfl⟩ := hf
  obtain ⟨hl, b, off, e, hb, hcell⟩ := h k cs hcs
  obtain ⟨e2, hlt⟩ := hg cs hl
  rw [e2] at hcell
  have c0 := hcell 0 _ rfl
  have c1 := hcell 1 _ rfl
  rw [Nat.mul_comm 2 k] at c0 c1
  exact ⟨b, off, e, hb, c0, c1, hlt⟩

set_option maxRecDepth 100000 in
theorem law_lifted (os : Os) (started : os.Started) (H : Type) (enc : TypeId × Value → H) :
    ReturnsInHanded {} Try.checked os 5 .any (Rows.frameNextSpec.pre6 enc Try.prog Try.f5 Rows.frameNextRow.domain false) (Rows.frameNextSpec.post enc Try.prog Try.f5 false true false false) := by
  refine returnsInHanded_of_change (C := Try.checked) Try.own started (by kernel_rfl) Try.func5
    (ChangeSpec.witness6 (enc := enc) (C := Try.checked) false ⟨#[], #[.slice none 0 0, .int .i64 0, .agg #[.int .u8 0, .int .u64 0]], []⟩ 8 (by kernel_rfl) (by kernel_rfl) (by kernel_rfl) (by kernel_rfl)) ?_
  intro W base args ds gs before hval0 hW hcnd _
  have hW' := hW
  obtain ⟨p, q, hA0, hV, rfl, hfz, hnd⟩ := hW
  have hA : DataW.TrodAll enc Try.prog W 0 (fun _ => true) true Try.f5.params.toList args.toList ds p := hA0
  have hval : ∀ (j : Nat) t v, Try.f5.params[j]? = some t → args[j]? = some v → Value.okWide Try.prog W .any base t v := hval0
  obtain ⟨rfl, rfl⟩ := trodVars_none hV
  have hA2 := hA
  rw [Try.params5] at hA2
  obtain ⟨v0, vs0, d0, ds0, p0, q0, hargs, rfl, rfl, h0, r0⟩ := trodAll_cons hA2
  obtain ⟨v1, vs1, d1, ds1, p1, q1, rfl, rfl, rfl, h1, r1⟩ := trodAll_cons r0
  obtain ⟨v2, vs2, d2, ds2, p2, q2, rfl, rfl, rfl, h2, r2⟩ := trodAll_cons r1
  obtain ⟨rfl, rfl, rfl⟩ := trodAll_nil r2
  obtain rfl : args = #[v0, v1, v2] := by cases args; simp_all
  obtain ⟨a0, len0, cap0, rfl⟩ := okWide_slice Try.underlying22 (hval 0 22 v0 (by rw [Try.params5]; rfl) rfl)
  obtain ⟨l0, hn0, hl0⟩ := Ro.rows_of (by decide) (Ro.open_rows Try.underlying22 (ks := [.num .u8, .num .u16]) (by kernel_rfl) h0)
  obtain ⟨z1, rfl, _, _, wf1⟩ := open_int Try.underlying3 (hval 1 3 v1 (by rw [Try.params5]; rfl) rfl) h1
  obtain ⟨l2, rfl, g2⟩ := Ro.open_flat Try.underlying39 (ks := [.num .u8, .num .u64]) (by kernel_rfl) (hval 2 39 v2 (by rw [Try.params5]; rfl) rfl) h2
  clear hA0 hval0
  have walk : Calls Try.prog 5 #[.slice a0 len0 cap0, .int .i64 z1, .agg l2.toArray] W (Yes W) := by
        obtain ⟨l, hl⟩ := wins_of hn0 hl0
        have h3 := Ro.wf_i64 wf1
        obtain ⟨v, r, rfl, ⟨y0, rfl, wfa⟩, v1, r1, rfl, ⟨y1, rfl, wfb⟩, rfl⟩ := g2
        obtain ⟨g, rfl, hg⟩ := Ro.wf_u8 wfa
        obtain ⟨zf, rfl, hzf⟩ := Ro.wf_u64 wfb
        exact next_law z1 g zf hg a0 len0 cap0 l W h3.1 h3.2 hl
  refine walk.mono fun e W' ⟨he, bel⟩ => ?_
  subst he
  exact ⟨_, rfl, _, _, _, [], _, [], hW', trodAll_mk1 (shut_bool Try.underlying4 _), Ro.trodAll_below Try.laidOut bel (by kernel_rfl) hA, rfl, bel.frame _, fun h => by cases h⟩

theorem law_over : Rows.frameNextRow.holds Try.pinned (OpenSpec.ofChange Rows.frameNextSpec) :=
  OpenClaim.holds_of_wide 5 Try.f5 rfl rfl rfl rfl rfl rfl rfl ⟨rfl, rfl, rfl, rfl, rfl⟩ rfl rfl rfl rfl rfl (by kernel_rfl) Try.func5 (by kernel_rfl)
    (of_decide_eq_true (by kernel_rfl)) (by unfold Func.isWrapper; first | (rw [if_pos (by decide +kernel)]; kernel_rfl) | (rw [if_neg (by decide +kernel)]; exact ⟨rfl, rfl⟩))
    (fun os started H enc _ => law_lifted os started H enc)

theorem frameNext_holds : Rows.FrameNextSaid := law_over
end Go.Proofs.Ytnfnhhphoiebbaa
