/- SampleSame: of any arguments the law answers true, and leaves them as they were. -/
import Derived.Test.YtgicehhenahfpaaAj
import Derived.Test.YtgicehhenahfpaaRo
import Derived.ChangeMaps5
import Derived.JoinedOf
set_option linter.unusedVariables false
set_option linter.unusedSimpArgs false
namespace Go.Proofs.Ytgicehhenahfpaa
open Go.ChangeShapes Go.WideShapes Go.ChangeAt Go.RowKit Go.ChangeMaps

theorem Try.own : ownKnob Try.prog.godebug = none := by kernel_rfl
theorem Try.laidOut : laidOutB Try.prog = true := by kernel_rfl
/-- An array of small structs, opened. -/
theorem Ro.open_arr {H : Type} {enc : TypeId × Value → H} {P : Program} {W : World} {b0 base : Nat} {r : Reach} {sp : Nat → Bool} {held : Bool} {t : TypeId} {n : Nat} {e : TypeId} (hu : P.underlying t = some (.array n e)) {ks : List Ro.Kd} (hk : Ro.kindsOk P t ks 0 = true)
    {v : Value} {d : DataW H} {p : List MemPlace} (hok : Value.okWide P W r b0 t v) (h : DataW.Trod enc P W base sp held t v d p) : ∃ l : List Value, v = .agg l.toArray ∧ Ro.Leaves ks l := by
  simp only [Value.okWide, hu] at hok
  obtain ⟨cs, rfl, h2, _⟩ := hok
  obtain ⟨fuel, hf⟩ := h
  have hcs : (Value.agg cs).cells.toList = cs.toList := rfl
  rw [hcs] at hf
  exact ⟨cs.toList, by simp, Ro.leaves_of (by simpa using h2) hf hk⟩
/-- A row of deeds, out of its cells. -/
theorem deeds_of {W : World} {a : Option Addr} {len : Nat} {l : List (List Value)} (hn : l.length = len) (h : ∀ (k : Nat) (cs : List Value), l[k]? = some cs → Ro.Leaves [.num .u8, .num .u64, .str, .num .i64] cs ∧ ∃ b off, a = some ⟨b, off, none⟩ ∧ b < W.heap.size ∧ ∀ (j : Nat) (v : Value), cs[j]? = some v → W.cell? ⟨b, off + 4 * k + j, none⟩ = some v) : ∃ l, IsDeeds W a len l := by
  have each : ∀ cs : List Value, ∃ f : Deed, Ro.Leaves [.num .u8, .num .u64, .str, .num .i64] cs → cs = [.int .u8 f.k, .int .u64 f.a, .string f.s, .int .i64 f.wd] ∧ f.k < 256 ∧ f.a < 18446744073709551616 := fun cs => by
    by_cases hc : Ro.Leaves [.num .u8, .num .u64, .str, .num .i64] cs
    · obtain ⟨v, r, rfl, ⟨z, rfl, wf⟩, v2, r2, rfl, ⟨z2, rfl, wf2⟩, v3, r3, rfl, ⟨z3, rfl, wf3⟩, v4, r4, rfl, ⟨z4, rfl, wf4⟩, rfl⟩ := hc
      obtain ⟨n, rfl, hn⟩ := Ro.wf_u8 wf
      obtain ⟨n2, rfl, hn2⟩ := Ro.wf_u64 wf2
      exact ⟨⟨n, n2, z4, z3⟩, fun _ => ⟨rfl, hn, hn2⟩⟩
    · exact ⟨⟨0, 0, 0, ⟨#[]⟩⟩, fun h => absurd h hc⟩
  obtain ⟨g, hg⟩ := Classical.axiomOfChoice each
  refine ⟨l.map g, by simpa using hn, fun k f hf => ?_⟩
  rw [List.getElem?_map, Option.map_eq_some_iff] at hf
  obtain ⟨cs, hcs, rfl⟩ := hf
  obtain ⟨hl, b, off, e, hb, hcell⟩ := h k cs hcs
  obtain ⟨e2, hlt, hlt2⟩ := hg cs hl
  rw [e2] at hcell
  exact ⟨b, off, e, hb, hcell 0 _ rfl, hcell 1 _ rfl, hcell 2 _ rfl, hcell 3 _ rfl, hlt, hlt2⟩
theorem u32_bd {z : Int} (h : (Lit.int .u32 z).wf = true) : 0 ≤ z ∧ z ≤ 4294967295 := Ro.wf_bd h

set_option maxRecDepth 100000 in
theorem law_lifted (os : Os) (started : os.Started) (H : Type) (enc : TypeId × Value → H) :
    ReturnsInHanded {} Try.checked os 3 .any (Rows.sampleSameSpec.pre6 enc Try.prog Try.f3 Rows.sampleSameRow.domain false) (Rows.sampleSameSpec.post enc Try.prog Try.f3 false true false false) := by
  refine returnsInHanded_of_change (C := Try.checked) Try.own started (by kernel_rfl) Try.func3
    (ChangeSpec.witness6 (enc := enc) (C := Try.checked) false ⟨#[], #[.agg #[.int .i64 0, .int .u32 0, .int .i64 0, .int .i64 0, .int .u32 0, .int .i64 0], .slice none 0 0, .slice none 0 0], []⟩ 8 (by kernel_rfl) (by kernel_rfl) (by kernel_rfl) (by kernel_rfl)) ?_
  intro W base args ds gs before hval0 hW hcnd _
  have hW' := hW
  obtain ⟨p, q, hA0, hV, rfl, hfz, hnd⟩ := hW
  have hA : DataW.TrodAll enc Try.prog W 0 (fun _ => true) true Try.f3.params.toList args.toList ds p := hA0
  have hval : ∀ (j : Nat) t v, Try.f3.params[j]? = some t → args[j]? = some v → Value.okWide Try.prog W .any base t v := hval0
  obtain ⟨rfl, rfl⟩ := trodVars_none hV
  have hA2 := hA
  rw [Try.params3] at hA2
  obtain ⟨v0, vs0, d0, ds0, p0, q0, hargs, rfl, rfl, h0, r0⟩ := trodAll_cons hA2
  obtain ⟨v1, vs1, d1, ds1, p1, q1, rfl, rfl, rfl, h1, r1⟩ := trodAll_cons r0
  obtain ⟨v2, vs2, d2, ds2, p2, q2, rfl, rfl, rfl, h2, r2⟩ := trodAll_cons r1
  obtain ⟨rfl, rfl, rfl⟩ := trodAll_nil r2
  obtain rfl : args = #[v0, v1, v2] := by cases args; simp_all
  obtain ⟨l0, rfl, g0⟩ := Ro.open_arr Try.underlying25 (ks := [.num .i64, .num .u32, .num .i64, .num .i64, .num .u32, .num .i64]) (by kernel_rfl) (hval 0 25 v0 (by rw [Try.params3]; rfl) rfl) h0
  obtain ⟨a1, len1, cap1, rfl⟩ := okWide_slice Try.underlying26 (hval 1 26 v1 (by rw [Try.params3]; rfl) rfl)
  obtain ⟨l1, hn1, hl1⟩ := Ro.rows_of (by decide) (Ro.open_rows Try.underlying26 (ks := [.num .u8, .num .u64, .str, .num .i64]) (by kernel_rfl) h1)
  obtain ⟨a2, len2, cap2, rfl⟩ := okWide_slice Try.underlying26 (hval 2 26 v2 (by rw [Try.params3]; rfl) rfl)
  obtain ⟨l2, hn2, hl2⟩ := Ro.rows_of (by decide) (Ro.open_rows Try.underlying26 (ks := [.num .u8, .num .u64, .str, .num .i64]) (by kernel_rfl) h2)
  clear hA0 hval0
  have walk : Calls Try.prog 3 #[.agg l0.toArray, .slice a1 len1 cap1, .slice a2 len2 cap2] W (Yes W) := by
    obtain ⟨l1, hl1⟩ := deeds_of hn1 hl1
    obtain ⟨l2, hl2⟩ := deeds_of hn2 hl2
    obtain ⟨v, r, rfl, ⟨m1, rfl, wf1⟩, v2, r2, rfl, ⟨u1, rfl, wf2⟩, v3, r3, rfl, ⟨n1, rfl, wf3⟩, v4, r4, rfl, ⟨m2, rfl, wf4⟩, v5, r5, rfl, ⟨u2, rfl, wf5⟩, v6, r6, rfl, ⟨n2, rfl, wf6⟩, rfl⟩ := g0
    have hu1 := u32_bd wf2
    have hu2 := u32_bd wf5
    show Calls Try.prog 3 #[.agg (shapes m1 u1 n1 m2 u2 n2), .slice a1 len1 cap1, .slice a2 len2 cap2] W (Yes W)
    by_cases g1 : Good m1 n1
    · by_cases g2 : Good m2 n2
      · by_cases hf : fewB len1 l1 = true ∧ fewB len2 l2 = true
        · obtain ⟨N1, rfl⟩ : ∃ N : Nat, n1 = N := ⟨n1.toNat, by have := g1.2.2.1; omega⟩
          obtain ⟨N2, rfl⟩ : ∃ N : Nat, n2 = N := ⟨n2.toNat, by have := g2.2.2.1; omega⟩
          exact same_all g1 g2 hl1 hl2 hf.1 hf.2 hu1.1 hu1.2 hu2.1 hu2.2
        · refine same_much g1 g2 hl1 hl2 ?_
          cases h1 : fewB len1 l1
          · exact .inl rfl
          · refine .inr ?_
            cases h2 : fewB len2 l2
            · rfl
            · exact absurd ⟨h1, h2⟩ hf
      · exact same_bad2 g1 g2
    · exact same_bad1 g1
  refine walk.mono fun e W' ⟨he, bel⟩ => ?_
  subst he
  exact ⟨_, rfl, _, _, _, [], _, [], hW', trodAll_mk1 (shut_bool Try.underlying4 _), Ro.trodAll_below Try.laidOut bel (by kernel_rfl) hA, rfl, bel.frame _, fun h => by cases h⟩

theorem law_over : Rows.sampleSameRow.holds Try.pinned (OpenSpec.ofChange Rows.sampleSameSpec) :=
  OpenClaim.holds_of_wide 3 Try.f3 rfl rfl rfl rfl rfl rfl rfl ⟨rfl, rfl, rfl, rfl, rfl⟩ rfl rfl rfl rfl rfl (by kernel_rfl) Try.func3 (by kernel_rfl)
    (of_decide_eq_true (by kernel_rfl)) (by unfold Func.isWrapper; first | (rw [if_pos (by decide +kernel)]; kernel_rfl) | (rw [if_neg (by decide +kernel)]; exact ⟨rfl, rfl⟩))
    (fun os started H enc _ => law_lifted os started H enc)

theorem sampleSame_holds : Rows.SampleSameSaid := law_over
end Go.Proofs.Ytgicehhenahfpaa
