/- SampleEnds: for every shape, and every list of acts, the law answers true; each argument reads behind the call as it read before. -/
import Derived.Test.YtaeebbcjofkjlaaJ
import Derived.ProofKit
import Derived.OpenShut
import Derived.ShutString
import Derived.ChangeOld
import Derived.Deep.Slices
import Derived.Lib.SmallJoins
namespace Go.Proofs.Ytaeebbcjofkjlaa
open Go.ChangeShapes Go.WideShapes Go.ChangeAt Go.RowKit

theorem Ends.own : ownKnob Try.prog.godebug = none := by kernel_rfl
theorem Ends.laidOut : laidOutB Try.prog = true := by kernel_rfl
theorem Ends.cells5 : Try.prog.cellsOf 5 = 1 := by kernel_rfl
theorem Ends.cells37 : Try.prog.cellsOf 37 = 1 := by kernel_rfl
theorem Ends.cells9 : Try.prog.cellsOf 9 = 1 := by kernel_rfl
theorem Ends.cells3 : Try.prog.cellsOf 3 = 1 := by kernel_rfl
theorem Ends.cells39 : Try.prog.cellsOf 39 = 4 := by kernel_rfl
theorem Ends.cells24 : Try.prog.cellsOf 24 = 3 := by kernel_rfl

theorem wfu8 {z : Int} (h : (Lit.int .u8 z).wf = true) : 0 ≤ z ∧ z ≤ 255 := by
  simpa [Lit.wf, IntKind.min, IntKind.max, IntKind.signed, IntKind.bits] using h
theorem wfu32 {z : Int} (h : (Lit.int .u32 z).wf = true) : 0 ≤ z ∧ z ≤ 4294967295 := by
  simpa [Lit.wf, IntKind.min, IntKind.max, IntKind.signed, IntKind.bits] using h
theorem wfu64 {z : Int} (h : (Lit.int .u64 z).wf = true) : 0 ≤ z ∧ z ≤ 18446744073709551615 := by
  simpa [Lit.wf, IntKind.min, IntKind.max, IntKind.signed, IntKind.bits] using h
theorem wfi64 {z : Int} (h : (Lit.int .i64 z).wf = true) : -9223372036854775808 ≤ z ∧ z ≤ 9223372036854775807 := by
  simpa [Lit.wf, IntKind.min, IntKind.max, IntKind.signed, IntKind.bits] using h

section
variable {H : Type} {enc : TypeId × Value → H} {w : World} {base : Nat} {spare : Nat → Bool} {held : Bool}

/-- One act, out of its cells. -/
theorem deed_of {fuel : Nat} {cs : List Value} {x : DataW H × List MemPlace} (h : DataW.trod enc Try.prog w base spare held fuel 39 cs = some x) : ∃ a : Deed, cs = a.cells ∧ a.fits := by
  obtain ⟨xs, n, _, _, hl, hx, hi⟩ := DataW.trod_struct Try.underlying39 h
  rw [Ends.cells39] at hl
  have hx4 : xs.length = 4 := hx
  have some_of : ∀ i, i < 4 → ∃ y, xs[i]? = some y := fun i hi => ⟨_, List.getElem?_eq_getElem (by omega)⟩
  have e0 : DataW.trod enc Try.prog w base spare held n 5 (cs.take 1) = xs[0]? := by simpa [Ends.cells5] using hi 0 _ rfl
  have e1 : DataW.trod enc Try.prog w base spare held n 37 ((cs.drop 1).take 1) = xs[1]? := by simpa [Ends.cells37] using hi 1 _ rfl
  have e2 : DataW.trod enc Try.prog w base spare held n 9 ((cs.drop 2).take 1) = xs[2]? := by simpa [Ends.cells9] using hi 2 _ rfl
  have e3 : DataW.trod enc Try.prog w base spare held n 3 ((cs.drop 3).take 1) = xs[3]? := by simpa [Ends.cells3] using hi 3 _ rfl
  obtain ⟨y0, h0⟩ := some_of 0 (by omega)
  obtain ⟨y1, h1⟩ := some_of 1 (by omega)
  obtain ⟨y2, h2⟩ := some_of 2 (by omega)
  obtain ⟨y3, h3⟩ := some_of 3 (by omega)
  rw [h0] at e0
  rw [h1] at e1
  rw [h2] at e2
  rw [h3] at e3
  obtain ⟨z0, g0, _, w0⟩ := DataW.trod_int Try.underlying5 e0
  obtain ⟨z1, g1, _, w1⟩ := DataW.trod_int Try.underlying37 e1
  obtain ⟨s2, g2, _, _⟩ := DataW.trod_string Try.underlying9 e2
  obtain ⟨z3, g3, _, w3⟩ := DataW.trod_int Try.underlying3 e3
  refine ⟨⟨z0, z1, s2, z3⟩, ?_, wfu8 w0, wfu64 w1, wfi64 w3⟩
  match cs, hl with
  | [c0, c1, c2, c3], _ =>
    simp at g0 g1 g2 g3
    subst g0 g1 g2 g3
    rfl

/-- A list of acts that came in. -/
theorem open_deeds {fuel : Nat} {a : Option Addr} {len cap : Nat} {x : DataW H × List MemPlace} (h : DataW.trod enc Try.prog w base spare held fuel 26 [.slice a len cap] = some x) : ∃ l, IsDeeds w a len cap l := by
  rcases Go.Deep.open_slice Try.underlying26 h with ⟨hcs, _⟩ | ⟨a', len', cap', m, n, D, Pl, hcs, hb, hl, hm, hmm, _, hi⟩
  · simp at hcs
    obtain ⟨rfl, rfl, rfl⟩ := hcs
    exact ⟨fun _ => ⟨0, 0, ⟨#[]⟩, 0⟩, Nat.le_refl _, Nat.zero_le _, fun h => absurd h (by omega)⟩
  · simp at hcs
    obtain ⟨rfl, rfl, rfl⟩ := hcs
    have hlm : len ≤ m := by
      rw [hmm]
      split <;> omega
    rw [Ends.cells39] at hi
    have each : ∀ i, ∃ d : Deed, i < len → d.fits ∧ ∀ j v, d.cells[j]? = some v → w.cell? (a'.add (i * 4 + j)) = some v := by
      intro i
      by_cases hlt : i < len
      · obtain ⟨cs', hc, ht⟩ := hi i (by omega)
        obtain ⟨d, rfl, hd⟩ := deed_of ht
        obtain ⟨_, _, hat⟩ := World.cells?_some hc
        refine ⟨d, fun _ => ⟨hd, fun j v hv => ?_⟩⟩
        have hj : j < 4 := (List.getElem?_eq_some_iff.1 hv).1
        rw [← Go.Deep.add_add, hat j hj, hv]
      · exact ⟨⟨0, 0, ⟨#[]⟩, 0⟩, fun h => absurd h hlt⟩
    refine ⟨fun i => Classical.choose (each i), hl, hm, fun h0 => ?_⟩
    obtain ⟨b, off, spot⟩ := a'
    have c0 := (Classical.choose_spec (each 0) h0).2 0 _ rfl
    have hspot : spot = none := by simpa [Addr.add] using World.cell?_spot c0
    subst hspot
    rw [Addr.add_mid] at c0
    refine ⟨b, off, rfl, block_lt_of_cell c0, fun i hlt => ⟨fun j v hv => ?_, (Classical.choose_spec (each i) hlt).1⟩⟩
    have := (Classical.choose_spec (each i) hlt).2 j v hv
    rw [Addr.add_mid, ← Nat.add_assoc] at this
    exact this
end

set_option maxRecDepth 100000 in
theorem ends_lifted (os : Os) (started : os.Started) (H : Type) (enc : TypeId × Value → H) :
    ReturnsInHanded {} Try.checked os 5 .any (Rows.sampleEndsSpec.pre6 enc Try.prog Try.f5 Rows.sampleEndsRow.domain false) (Rows.sampleEndsSpec.post enc Try.prog Try.f5 false true false false) := by
  refine returnsInHanded_of_change (C := Try.checked) Ends.own started (by kernel_rfl) Try.func5
    (ChangeSpec.witness6 (enc := enc) (C := Try.checked) false ⟨#[], #[.agg #[.int .i64 0, .int .u32 0, .int .i64 0], .slice none 0 0], []⟩ 8 (by kernel_rfl) (by kernel_rfl) (by kernel_rfl) (by kernel_rfl)) ?_
  intro W base args ds gs before hval0 hW hcnd _
  have hval : ∀ (j : Nat) t v, Try.f5.params[j]? = some t → args[j]? = some v → Value.okWide Try.prog W .any base t v := hval0
  have hW' := hW
  obtain ⟨p, q, hA0, hV, rfl, hfz, hnd⟩ := hW
  have hA : DataW.TrodAll enc Try.prog W 0 (fun _ => true) true Try.f5.params.toList args.toList ds p := hA0
  rw [Try.params5] at hA hval
  obtain ⟨v0, vs0, d0, ds0, p0, q0, hargs, rfl, rfl, h0, r0⟩ := trodAll_cons hA
  obtain ⟨v1, vs1, d1, ds1, p1, q1, rfl, rfl, rfl, h1, r1⟩ := trodAll_cons r0
  obtain ⟨rfl, rfl, rfl⟩ := trodAll_nil r1
  obtain rfl : args = #[v0, v1] := by cases args; simp_all
  obtain ⟨rfl, rfl⟩ := trodVars_none hV
  have k0 := h0
  have k1 := h1
  have lt0 : ∀ x ∈ p0, x.block < W.heap.size := by obtain ⟨m, hm⟩ := h0; exact DataW.trod_lt m _ _ _ hm
  have lt1 : ∀ x ∈ p1, x.block < W.heap.size := by obtain ⟨m, hm⟩ := h1; exact DataW.trod_lt m _ _ _ hm
  obtain ⟨c0, c1, c2, y0, y1, y2, n, rfl, _, _, hy0, hy1, hy2⟩ := Go.Joins.open_agg3 Try.underlying24 (by kernel_rfl) Ends.cells24 (hval 0 24 v0 rfl rfl) h0
  obtain ⟨mo, e0, _, _⟩ := DataW.trod_int Try.underlying3 hy0
  obtain ⟨va, e1, _, wv⟩ := DataW.trod_int Try.underlying22 hy1
  obtain ⟨en, e2, _, _⟩ := DataW.trod_int Try.underlying3 hy2
  simp at e0 e1 e2
  subst e0 e1 e2
  obtain ⟨a1, len1, cap1, rfl⟩ := okWide_slice Try.underlying26 (hval 1 26 v1 rfl rfl)
  have walk : Calls Try.prog 5 #[.agg #[.int .i64 mo, .int .u32 va, .int .i64 en], .slice a1 len1 cap1] W fun e w' => e = .returned (.bool true) ∧ Below W.heap.size W w' := by
    by_cases hg : 1 ≤ mo ∧ mo ≤ 64 ∧ 1 ≤ en ∧ en ≤ 16
    · obtain ⟨g0, g1, g2, g3⟩ := hg
      obtain ⟨v0, v1⟩ := wfu32 wv
      obtain ⟨fuel, hf⟩ := h1
      obtain ⟨l, hl⟩ := open_deeds hf
      exact ends_good g0 g1 g2 g3 v0 v1 a1 len1 cap1 l W hl
    · exact ends_bad hg a1 len1 cap1 W
  clear hA0 hval0
  refine walk.mono fun e W' ⟨he, bel⟩ => ?_
  subst he
  exact ⟨_, rfl, _, _, _, [], _, [], hW', trodAll_mk1 (shut_bool Try.underlying4 _), (trodAll_cons_mk (Below.trod Ends.laidOut (by kernel_rfl) (of_decide_eq_true (by kernel_rfl)) k0 bel lt0) (trodAll_cons_mk (Below.trod Ends.laidOut (by kernel_rfl) (of_decide_eq_true (by kernel_rfl)) k1 bel lt1) trodAll_mk0)), rfl, bel.frame _, fun h => by cases h⟩

theorem ends_over : Rows.sampleEndsRow.holds Try.pinned (OpenSpec.ofChange Rows.sampleEndsSpec) :=
  OpenClaim.holds_of_wide 5 Try.f5 rfl rfl rfl rfl rfl rfl rfl ⟨rfl, rfl, rfl, rfl, rfl⟩ rfl rfl rfl rfl rfl (by kernel_rfl) Try.func5 (by kernel_rfl)
    (of_decide_eq_true (by kernel_rfl)) (by unfold Func.isWrapper; first | (rw [if_pos (by decide +kernel)]; kernel_rfl) | (rw [if_neg (by decide +kernel)]; exact ⟨rfl, rfl⟩))
    (fun os started H enc _ => ends_lifted os started H enc)

theorem sampleEnds_holds : Rows.SampleEndsSaid := ends_over
end Go.Proofs.Ytaeebbcjofkjlaa
