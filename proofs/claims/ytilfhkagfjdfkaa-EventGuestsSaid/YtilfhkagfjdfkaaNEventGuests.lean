/- EventGuests: of any arguments the law answers true, and leaves them as they were. -/
import Derived.Test.YtilfhkagfjdfkaaEH
import Derived.Test.YtilfhkagfjdfkaaRo
import Derived.ChangeMaps5
import Derived.JoinedOf
set_option linter.unusedVariables false
set_option linter.unusedSimpArgs false
namespace Go.Proofs.Ytilfhkagfjdfkaa
open Go.ChangeShapes Go.WideShapes Go.ChangeAt Go.RowKit Go.ChangeMaps

theorem Try.own : ownKnob Try.prog.godebug = none := by kernel_rfl
theorem Try.laidOut : laidOutB Try.prog = true := by kernel_rfl
theorem wf_u32 {z : Int} (h : (Lit.int .u32 z).wf = true) : ∃ n : Nat, z = n ∧ n < 4294967296 := by
  have h1 := Ro.wf_bd h
  have h2 : (0 : Int) ≤ z := h1.1
  have h3 : z ≤ 4294967295 := h1.2
  exact ⟨z.toNat, by omega, by omega⟩
/-- A row of events, out of its cells. -/
theorem evs_of {W : World} {a : Option Addr} {len cap : Nat} {l : List (List Value)} (hn : l.length = len) (h : ∀ (k : Nat) (cs : List Value), l[k]? = some cs → Ro.Leaves [.num .u32, .num .u8, .num .u8, .num .u32] cs ∧ ∃ b off, a = some ⟨b, off, none⟩ ∧ b < W.heap.size ∧ ∀ (j : Nat) (v : Value), cs[j]? = some v → W.cell? ⟨b, off + 4 * k + j, none⟩ = some v) : ∃ l, IsEvs W (.slice a len cap) l := by
  have each : ∀ cs : List Value, ∃ f : Ev, Ro.Leaves [.num .u32, .num .u8, .num .u8, .num .u32] cs → cs = evL f ∧ f.wf := fun cs => by
    by_cases hc : Ro.Leaves [.num .u32, .num .u8, .num .u8, .num .u32] cs
    · obtain ⟨v, r, rfl, ⟨z, rfl, wf⟩, v2, r2, rfl, ⟨z2, rfl, wf2⟩, v3, r3, rfl, ⟨z3, rfl, wf3⟩, v4, r4, rfl, ⟨z4, rfl, wf4⟩, rfl⟩ := hc
      obtain ⟨n, rfl, hn⟩ := wf_u32 wf
      obtain ⟨n2, rfl, hn2⟩ := Ro.wf_u8 wf2
      obtain ⟨n3, rfl, hn3⟩ := Ro.wf_u8 wf3
      obtain ⟨n4, rfl, hn4⟩ := wf_u32 wf4
      exact ⟨⟨n, n2, n3, n4⟩, fun _ => ⟨rfl, hn, hn2, hn3, hn4⟩⟩
    · exact ⟨⟨0, 0, 0, 0⟩, fun h => absurd h hc⟩
  obtain ⟨g, hg⟩ := Classical.axiomOfChoice each
  refine ⟨l.map g, a, cap, by rw [List.length_map, hn], fun e he => ?_, fun k f hf => ?_⟩
  · obtain ⟨cs, hcs, rfl⟩ := List.mem_map.1 he
    obtain ⟨k, hk⟩ := List.getElem?_of_mem hcs
    exact (hg cs (h k cs hk).1).2
  · rw [List.getElem?_map, Option.map_eq_some_iff] at hf
    obtain ⟨cs, hcs, rfl⟩ := hf
    obtain ⟨hl, b, off, e, hb, hcell⟩ := h k cs hcs
    obtain ⟨e2, _⟩ := hg cs hl
    refine ⟨b, off, e, hb, fun j v hj => ?_⟩
    rw [Nat.mul_comm k 4]
    exact hcell j v (by rw [e2]; exact hj)

set_option maxRecDepth 100000 in
theorem law_lifted (os : Os) (started : os.Started) (H : Type) (enc : TypeId × Value → H) :
    ReturnsInHanded {} Try.checked os 9 .any (Rows.eventGuestsSpec.pre6 enc Try.prog Try.f9 Rows.eventGuestsRow.domain false) (Rows.eventGuestsSpec.post enc Try.prog Try.f9 false true false false) := by
  refine returnsInHanded_of_change (C := Try.checked) Try.own started (by kernel_rfl) Try.func9
    (ChangeSpec.witness6 (enc := enc) (C := Try.checked) false ⟨#[], #[.slice none 0 0, .int .i64 0, .int .u8 0], []⟩ 8 (by kernel_rfl) (by kernel_rfl) (by kernel_rfl) (by kernel_rfl)) ?_
  intro W base args ds gs before hval0 hW hcnd _
  have hW' := hW
  obtain ⟨p, q, hA0, hV, rfl, hfz, hnd⟩ := hW
  have hA : DataW.TrodAll enc Try.prog W 0 (fun _ => true) true Try.f9.params.toList args.toList ds p := hA0
  have hval : ∀ (j : Nat) t v, Try.f9.params[j]? = some t → args[j]? = some v → Value.okWide Try.prog W .any base t v := hval0
  obtain ⟨rfl, rfl⟩ := trodVars_none hV
  have hA2 := hA
  rw [Try.params9] at hA2
  obtain ⟨v0, vs0, d0, ds0, p0, q0, hargs, rfl, rfl, h0, r0⟩ := trodAll_cons hA2
  obtain ⟨v1, vs1, d1, ds1, p1, q1, rfl, rfl, rfl, h1, r1⟩ := trodAll_cons r0
  obtain ⟨v2, vs2, d2, ds2, p2, q2, rfl, rfl, rfl, h2, r2⟩ := trodAll_cons r1
  obtain ⟨rfl, rfl, rfl⟩ := trodAll_nil r2
  obtain rfl : args = #[v0, v1, v2] := by cases args; simp_all
  obtain ⟨a0, len0, cap0, rfl⟩ := okWide_slice Try.underlying23 (hval 0 23 v0 (by rw [Try.params9]; rfl) rfl)
  obtain ⟨l0, hn0, hl0⟩ := Ro.rows_of (by decide) (Ro.open_rows Try.underlying23 (ks := [.num .u32, .num .u8, .num .u8, .num .u32]) (by kernel_rfl) h0)
  obtain ⟨z1, rfl, _, _, wf1⟩ := open_int Try.underlying3 (hval 1 3 v1 (by rw [Try.params9]; rfl) rfl) h1
  obtain ⟨z2, rfl, _, _, wf2⟩ := open_int Try.underlying5 (hval 2 5 v2 (by rw [Try.params9]; rfl) rfl) h2
  clear hA0 hval0
  have walk : Calls Try.prog 9 #[.slice a0 len0 cap0, .int .i64 z1, .int .u8 z2] W (Yes W) := by
    obtain ⟨l0, hl0⟩ := evs_of (cap := cap0) hn0 hl0
    obtain ⟨n2, rfl, hn2⟩ := Ro.wf_u8 wf2
    by_cases hg : len0 ≤ 60
    · exact guests_all a0 len0 cap0 l0 hg z1 n2 hn2 W hl0
    · exact guests_long a0 len0 cap0 (by omega) z1 n2 W
  refine walk.mono fun e W' ⟨he, bel⟩ => ?_
  subst he
  exact ⟨_, rfl, _, _, _, [], _, [], hW', trodAll_mk1 (shut_bool Try.underlying4 _), Ro.trodAll_below Try.laidOut bel (by kernel_rfl) hA, rfl, bel.frame _, fun h => by cases h⟩

theorem law_over : Rows.eventGuestsRow.holds Try.pinned (OpenSpec.ofChange Rows.eventGuestsSpec) :=
  OpenClaim.holds_of_wide 9 Try.f9 rfl rfl rfl rfl rfl rfl rfl ⟨rfl, rfl, rfl, rfl, rfl⟩ rfl rfl rfl rfl rfl (by kernel_rfl) Try.func9 (by kernel_rfl)
    (of_decide_eq_true (by kernel_rfl)) (by unfold Func.isWrapper; first | (rw [if_pos (by decide +kernel)]; kernel_rfl) | (rw [if_neg (by decide +kernel)]; exact ⟨rfl, rfl⟩))
    (fun os started H enc _ => law_lifted os started H enc)

theorem eventGuests_holds : Rows.EventGuestsSaid := law_over
end Go.Proofs.Ytilfhkagfjdfkaa
