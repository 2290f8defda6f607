/- FrameTells: of any arguments the law answers true, and leaves them as they were. -/
import Derived.Test.YtnfnhhphoiebbaaDoorGm
import Derived.Test.YtnfnhhphoiebbaaDoorTa
import Derived.Test.YtnfnhhphoiebbaaDoorRo
import Derived.Test.YtnfnhhphoiebbaaDoorCards
import Derived.Test.YtnfnhhphoiebbaaDoorTie
import Derived.ChangeMaps5
import Derived.ChangeOld
import Derived.LaidMore
import Derived.MakeChecks
import Derived.SevenTiedAt
set_option linter.unusedVariables false
set_option linter.unusedSimpArgs false
namespace Go.Proofs.YtnfnhhphoiebbaaDoor
open Go.ChangeShapes Go.WideShapes Go.ChangeAt Go.RowKit Go.ChangeMaps

theorem Tryd.own : ownKnob Tryd.prog.godebug = none := by kernel_rfl
theorem Tryd.laidOut : laidOutB Tryd.prog = true := by kernel_rfl
theorem wf_u16 {z : Int} (h : (Lit.int .u16 z).wf = true) : ∃ n : Nat, z = n ∧ n < 65536 := by
  have h := Ro.wf_bd h
  have h1 : (0 : Int) ≤ z := h.1
  have h2 : z ≤ 65535 := h.2
  exact ⟨z.toNat, by omega, by omega⟩
/-- A row of windows, out of its cells. -/
theorem wins_of {W : World} {a : Option Addr} {len : Nat} {l : List (List Value)} (hn : l.length = len) (h : ∀ (k : Nat) (cs : List Value), l[k]? = some cs → Ro.Leaves [.num .u8, .num .u16] cs ∧ ∃ b off, a = some ⟨b, off, none⟩ ∧ b < W.heap.size ∧ ∀ (j : Nat) (v : Value), cs[j]? = some v → W.cell? ⟨b, off + 2 * k + j, none⟩ = some v) : ∃ l, IsWins W a len l := by
  have each : ∀ cs : List Value, ∃ f : Win, Ro.Leaves [.num .u8, .num .u16] cs → cs = [.int .u8 f.1, .int .u16 f.2] ∧ f.1 < 256 ∧ f.2 < 65536 := fun cs => by
    by_cases hc : Ro.Leaves [.num .u8, .num .u16] cs
    · obtain ⟨v, r, rfl, ⟨z, rfl, wf⟩, v1, r1, rfl, ⟨z1, rfl, wf1⟩, rfl⟩ := hc
      obtain ⟨n, rfl, hn⟩ := Ro.wf_u8 wf
      obtain ⟨n1, rfl, hn1⟩ := wf_u16 wf1
      exact ⟨(n, n1), fun _ => ⟨rfl, hn, hn1⟩⟩
    · exact ⟨(0, 0), fun h => absurd h hc⟩
  obtain ⟨g, hg⟩ := Classical.axiomOfChoice each
  refine ⟨l.map g, by simpa using hn, fun k f hf => ?_⟩
  rw [List.getElem?_map, Option.map_eq_some_iff] at hf
  obtain ⟨cs, hcs, rfl⟩ := hf
  obtain ⟨hl, b, off, e, hb, hcell⟩ := h k cs hcs
  obtain ⟨e2, hlt⟩ := hg cs hl
  rw [e2] at hcell
  have c0 := hcell 0 _ rfl
  have c1 := hcell 1 _ rfl
  rw [Nat.mul_comm 2 k] at c0 c1
  exact ⟨b, off, e, hb, c0, c1, hlt⟩
/-- A row of asks, out of its cells. -/
theorem asks_of {W : World} {a : Option Addr} {len : Nat} {l : List (List Value)} (hn : l.length = len) (h : ∀ (k : Nat) (cs : List Value), l[k]? = some cs → Ro.Leaves [.num .u8, .num .u64] cs ∧ ∃ b off, a = some ⟨b, off, none⟩ ∧ b < W.heap.size ∧ ∀ (j : Nat) (v : Value), cs[j]? = some v → W.cell? ⟨b, off + 2 * k + j, none⟩ = some v) : ∃ l, IsAsks W a len l := by
  have each : ∀ cs : List Value, ∃ f : Nat × Nat, Ro.Leaves [.num .u8, .num .u64] cs → cs = [.int .u8 f.1, .int .u64 f.2] ∧ f.1 < 256 ∧ f.2 < 18446744073709551616 := fun cs => by
    by_cases hc : Ro.Leaves [.num .u8, .num .u64] cs
    · obtain ⟨v, r, rfl, ⟨z, rfl, wf⟩, v1, r1, rfl, ⟨z1, rfl, wf1⟩, rfl⟩ := hc
      obtain ⟨n, rfl, hn⟩ := Ro.wf_u8 wf
      obtain ⟨n1, rfl, hn1⟩ := Ro.wf_u64 wf1
      exact ⟨(n, n1), fun _ => ⟨rfl, hn, hn1⟩⟩
    · exact ⟨(0, 0), fun h => absurd h hc⟩
  obtain ⟨g, hg⟩ := Classical.axiomOfChoice each
  refine ⟨l.map g, by simpa using hn, fun k f hf => ?_⟩
  rw [List.getElem?_map, Option.map_eq_some_iff] at hf
  obtain ⟨cs, hcs, rfl⟩ := hf
  obtain ⟨hl, b, off, e, hb, hcell⟩ := h k cs hcs
  obtain ⟨e2, hlt⟩ := hg cs hl
  rw [e2] at hcell
  have c0 := hcell 0 _ rfl
  have c1 := hcell 1 _ rfl
  rw [Nat.mul_comm 2 k] at c0 c1
  exact ⟨b, off, e, hb, c0, c1, hlt⟩

/-- The powers of ten, as start-up laid them. -/
theorem tab_met {w : World} (h : laidMetH Tryd.prog Rows.frameTellsRow.laid w) : Lib.TabIs Tryd.prog w "internal/strconv.uint64pow10" .u64 Lib.pow10Tab := by
  rw [MakeChecks.laidMetH_plain _ _ _ (by kernel_rfl)] at h
  have hm : ("internal/strconv.uint64pow10", DataW.agg (Lib.pow10Tab.map fun z => .lit (.int .u64 z))) ∈ Rows.frameTellsRow.laid := by simp [Rows.frameTellsRow, Rows.laid_internal_strconv_uint64pow10, Lib.pow10Tab, List.range, List.range.loop]
  first
    | exact tabIs_of_laid (g := 0) h hm (by kernel_rfl) rfl rfl rfl (by kernel_rfl) (by kernel_rfl)
    | exact tabIs_of_laid (g := 1) h hm (by kernel_rfl) rfl rfl rfl (by kernel_rfl) (by kernel_rfl)
    | exact tabIs_of_laid (g := 2) h hm (by kernel_rfl) rfl rfl rfl (by kernel_rfl) (by kernel_rfl)
/-- The heap that start-up leaves meets the condition. -/
theorem door_met (H : Type) (os : Os) (args : Array Value) : laidMetH Tryd.prog Rows.frameTellsRow.laid ((World.doorLaid Tryd.prog 400 os).forCall (fun _ _ => 0) ⟨#[], args, []⟩).memory :=
  laidMetH_of_parts3 (fuel := 8) (laidMet_of_run' 8 (by kernel_rfl) (by kernel_rfl)) (by kernel_rfl) (by kernel_rfl)
set_option maxRecDepth 100000 in
theorem law_lifted (os : Os) (started : os.Started) (H : Type) (enc : TypeId × Value → H) :
    ReturnsInHanded {} Tryd.checked os 3 .any (fun w args => (Rows.frameTellsSpec.pre enc Tryd.prog Tryd.f3 [] false w args ∧ laidMetH Tryd.prog Rows.frameTellsRow.laid w) ∧ sizedMet enc Tryd.prog Tryd.f3 (OpenSpec.ofChange Rows.frameTellsSpec) false w args)
      (Rows.frameTellsSpec.post enc Tryd.prog Tryd.f3 false true false false) := by
  refine returnsInHanded_of_change_and (C := Tryd.checked) (X := fun w _ => laidMetH Tryd.prog Rows.frameTellsRow.laid w) (fun _ _ _ hh h => h.of_heap hh) Tryd.own started (by kernel_rfl) Tryd.func3
    (ChangeSpec.witness_shaped (enc := enc) (C := Tryd.checked) (os := os) (X := fun w _ => laidMetH Tryd.prog Rows.frameTellsRow.laid w) false (World.doorLaid Tryd.prog 400 os) #[.slice none 0 0, .int .i64 0, .slice none 0 0] 8 rfl (World.shaped_of_RefB (by kernel_rfl) (by kernel_rfl)) (by kernel_rfl) (by kernel_rfl) (by kernel_rfl) (door_met H os _)) ?_
  intro W base args ds gs before hval0 hW _ _ hL _
  have hTab := tab_met hL
  have hval : ∀ (j : Nat) t v, Tryd.f3.params[j]? = some t → args[j]? = some v → Value.okWide Tryd.prog W .any base t v := hval0
  have hW' := hW
  obtain ⟨p, q, hA0, hV, rfl, hfz, hnd⟩ := hW
  have hA : DataW.TrodAll enc Tryd.prog W 0 (fun _ => true) true Tryd.f3.params.toList args.toList ds p := hA0
  obtain ⟨rfl, rfl⟩ := trodVars_none hV
  have hA2 := hA
  rw [Tryd.params3] at hA2
  obtain ⟨v0, vs0, d0, ds0, p0, q0, hargs, rfl, rfl, h0, r0⟩ := trodAll_cons hA2
  obtain ⟨v1, vs1, d1, ds1, p1, q1, rfl, rfl, rfl, h1, r1⟩ := trodAll_cons r0
  obtain ⟨v2, vs2, d2, ds2, p2, q2, rfl, rfl, rfl, h2, r2⟩ := trodAll_cons r1
  obtain ⟨rfl, rfl, rfl⟩ := trodAll_nil r2
  obtain rfl : args = #[v0, v1, v2] := by cases args; simp_all
  obtain ⟨a0, len0, cap0, rfl⟩ := okWide_slice Tryd.underlying22 (hval 0 22 v0 (by rw [Tryd.params3]; rfl) rfl)
  obtain ⟨l0, hn0, hl0⟩ := Ro.rows_of (by decide) (Ro.open_rows Tryd.underlying22 (ks := [.num .u8, .num .u16]) (by kernel_rfl) h0)
  obtain ⟨z1, rfl, _, _, wf1⟩ := open_int Tryd.underlying3 (hval 1 3 v1 (by rw [Tryd.params3]; rfl) rfl) h1
  obtain ⟨a2, len2, cap2, rfl⟩ := okWide_slice Tryd.underlying23 (hval 2 23 v2 (by rw [Tryd.params3]; rfl) rfl)
  obtain ⟨l2, hn2, hl2⟩ := Ro.rows_of (by decide) (Ro.open_rows Tryd.underlying23 (ks := [.num .u8, .num .u64]) (by kernel_rfl) h2)
  clear hA0 hval0
  have walk : Calls Tryd.prog 3 #[.slice a0 len0 cap0, .int .i64 z1, .slice a2 len2 cap2] W (Yes W) := by
        obtain ⟨l, hl⟩ := wins_of hn0 hl0
        obtain ⟨A, hA⟩ := asks_of hn2 hl2
        have h3 := Ro.wf_i64 wf1
        exact tells_any z1 a0 a2 len0 cap0 len2 cap2 l A W h3.1 h3.2 hl hA (nums_of hTab) join_is
  refine walk.mono fun e W' ⟨he, bel⟩ => ?_
  subst he
  exact ⟨_, rfl, _, _, _, [], _, [], hW', trodAll_mk1 (shut_bool Tryd.underlying4 _), Ro.trodAll_below Tryd.laidOut bel (by kernel_rfl) hA, rfl, bel.frame _, fun h => by cases h⟩

theorem law_over : Rows.frameTellsRow.holds Tryd.pinned (OpenSpec.ofChange Rows.frameTellsSpec) :=
  OpenClaim.holds_of_wide 3 Tryd.f3 rfl rfl rfl rfl rfl rfl rfl ⟨rfl, rfl, rfl, rfl, rfl⟩ rfl rfl rfl rfl rfl (by kernel_rfl) Tryd.func3 (by kernel_rfl)
    (of_decide_eq_true (by kernel_rfl)) (by unfold Func.isWrapper; first | (rw [if_pos (by decide +kernel)]; kernel_rfl) | (rw [if_neg (by decide +kernel)]; exact ⟨rfl, rfl⟩))
    (fun os started H enc _ => law_lifted os started H enc)

theorem frameTells_holds : Rows.FrameTellsCardSaid :=
  Claim7.holds_tied_plain_at .later [] [.data, .data, .data] true (true, "790f172c7c548df9f62454274afea06ca8908b049ecfd48499398f3c6872baa5") false
    law_over (fun _ h => by cases h) (by kernel_rfl) (fun _ h => by cases h) frameTells_row_tie rfl ⟨rfl, rfl⟩ (by kernel_rfl) rfl
    (fun f fn hf hfn => by
      obtain rfl : f = 3 := Option.some.inj ((show Tryd.prog.funcNamed "almonry/almonrylaw27.FrameTells" = some 3 by kernel_rfl).symm.trans hf) |>.symm
      obtain rfl : fn = Tryd.f3 := (Option.some.inj (Tryd.func3.symm.trans hfn)).symm
      exact ⟨by kernel_rfl, fun j t ht => by
        rw [Tryd.params3] at ht
        rcases j with _ | _ | _ | _ <;> simp at ht <;> (subst ht; kernel_rfl)⟩)
    (by kernel_rfl)
end Go.Proofs.YtnfnhhphoiebbaaDoor
