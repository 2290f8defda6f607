/- PmpBehind: of any arguments the law answers true, and leaves them as they were. -/
import Derived.Test.YtcgklflflfemnaaDoorPm
import Derived.Test.YtcgklflflfemnaaDoorTa
import Derived.Test.YtcgklflflfemnaaDoorRo
import Derived.Test.YtcgklflflfemnaaDoorCards
import Derived.Test.YtcgklflflfemnaaDoorTie
import Derived.ChangeMaps5
import Derived.ChangeOld
import Derived.LaidMore
import Derived.MakeChecks
import Derived.SevenTiedAt
set_option linter.unusedVariables false
set_option linter.unusedSimpArgs false
namespace Go.Proofs.YtcgklflflfemnaaDoor
open Go.ChangeShapes Go.WideShapes Go.ChangeAt Go.RowKit Go.ChangeMaps

theorem Tryd.own : ownKnob Tryd.prog.godebug = none := by kernel_rfl
theorem Tryd.laidOut : laidOutB Tryd.prog = true := by kernel_rfl
section
variable {H : Type} {enc : TypeId × Value → H} {P : Program} {w : World} {base : Nat} {spare : Nat → Bool} {held : Bool}

/-- An array of integers, cell by cell. -/
theorem open_tab {t e : TypeId} {k : IntKind} {m fuel : Nat} {cs : List Value} {x : DataW H × List MemPlace} (ht : P.underlying t = some (.array m e)) (he : P.underlying e = some (.int k)) (hc : P.cellsOf e = 1) (hm : P.cellsOf t = m)
    (h : DataW.trod enc P w base spare held fuel t cs = some x) : ∃ T : Nat → Int, cs = (List.range m).map (fun i => .int k (T i)) ∧ ∀ i, i < m → (Lit.int k (T i)).wf = true := by
  obtain ⟨xs, n, _, _, hl, hx, hi⟩ := DataW.trod_array ht h
  have hn : ∀ i, i < m → ∃ z, cs[i]? = some (.int k z) ∧ (Lit.int k z).wf = true := by
    intro i him
    have h1 := hi i him
    have h2 : xs[i]? = some (xs[i]'(by omega)) := List.getElem?_eq_getElem (by omega)
    rw [h2, hc, Nat.mul_one] at h1
    obtain ⟨z, hz, _, hw⟩ := DataW.trod_int he h1
    have hcs : cs[i]? = some (cs[i]'(by omega)) := List.getElem?_eq_getElem (by omega)
    rw [List.drop_eq_getElem_cons (by omega)] at hz
    simp only [List.take_succ_cons, List.take_zero, List.cons.injEq, and_true] at hz
    exact ⟨z, by rw [hcs, hz], hw⟩
  refine ⟨fun i => match cs[i]? with | some (.int _ z) => z | _ => 0, ?_, ?_⟩
  · apply List.ext_getElem?
    intro i
    by_cases him : i < m
    · obtain ⟨z, hz, _⟩ := hn i him
      simp [hz, him]
    · rw [List.getElem?_eq_none (by omega), List.getElem?_eq_none (by simp; omega)]
  · intro i him
    obtain ⟨z, hz, hw⟩ := hn i him
    simp [hz, hw]
end

theorem okWide_tab {P : Program} {w : World} {r : Reach} {b0 : Nat} {t e : TypeId} {m : Nat} {v : Value} (ht : P.underlying t = some (.array m e)) (h : Value.okWide P w r b0 t v) : ∃ cs, v = .agg cs ∧ cs.size = P.cellsOf t := by
  simp only [Value.okWide, ht] at h
  obtain ⟨cs, h1, h2, _⟩ := h
  exact ⟨cs, h1, h2⟩
/-- The registers of addresses that came in. -/
theorem open_regs {H : Type} {enc : TypeId × Value → H} {w : World} {base : Nat} {spare : Nat → Bool} {held : Bool} {r : Reach} {b0 : Nat} {v : Value} {d : DataW H} {p : List MemPlace} (hv : Value.okWide Tryd.prog w r b0 23 v) (h : DataW.Trod enc Tryd.prog w base spare held 23 v d p) : ∃ A : Nat → Nat, v = .agg (arr A) ∧ ∀ k, A k < 18446744073709551616 := by
  obtain ⟨cs, rfl, _⟩ := okWide_tab Tryd.underlying23 hv
  obtain ⟨fuel, hf⟩ := h
  obtain ⟨T, hT, hw⟩ := open_tab Tryd.underlying23 Tryd.underlying22 (by kernel_rfl) (by kernel_rfl) hf
  have hb : ∀ k, k < 8 → 0 ≤ T k ∧ T k < 18446744073709551616 := fun k hk => by
    have h1 := Ro.wf_bd (hw k hk)
    have h2 : (0 : Int) ≤ T k := h1.1
    have h3 : T k ≤ 18446744073709551615 := h1.2
    omega
  have e : ∀ k, k < 8 → ((T k).toNat : Int) = T k := fun k hk => by have := hb k hk; omega
  refine ⟨fun k => if k < 8 then (T k).toNat else 0, ?_, fun k => ?_⟩
  · obtain ⟨l⟩ := cs
    simp only [Value.cells] at hT
    have hl : l = (List.range 8).map (fun i => .int .u64 (T i)) := hT
    rw [hl]
    show Value.agg #[_, _, _, _, _, _, _, _] = Value.agg #[_, _, _, _, _, _, _, _]
    simp only [arr]
    rw [if_pos (by decide), if_pos (by decide), if_pos (by decide), if_pos (by decide), if_pos (by decide), if_pos (by decide), if_pos (by decide), if_pos (by decide)]
    rw [e 0 (by decide), e 1 (by decide), e 2 (by decide), e 3 (by decide), e 4 (by decide), e 5 (by decide), e 6 (by decide), e 7 (by decide)]
  · by_cases hk : k < 8
    · have := hb k hk
      simp only [if_pos hk]
      omega
    · simp only [if_neg hk]
      decide
/-- An access and other registers, out of their cells. -/
theorem oth_of {l : List Value} (h : Ro.Leaves [.num .u8, .num .u8, .num .u64, .num .i64, .num .u64, .num .u64, .num .u64, .num .u64, .num .u64, .num .u64, .num .u64, .num .u64, .num .u64] l) : ∃ (mode kind at' : Nat) (z : Int) (C : Nat) (B : Nat → Nat), .agg l.toArray = (.agg (othC mode kind at' z C B) : Value) ∧ at' < 18446744073709551616 ∧ -9223372036854775808 ≤ z ∧ z ≤ 9223372036854775807 ∧ C < 18446744073709551616 ∧ ∀ k, B k < 18446744073709551616 := by
  obtain ⟨v0, r0, rfl, ⟨z0, rfl, w0⟩, v1, r1, rfl, ⟨z1, rfl, w1⟩, v2, r2, rfl, ⟨z2, rfl, w2⟩, v3, r3, rfl, ⟨z3, rfl, w3⟩, v4, r4, rfl, ⟨z4, rfl, w4⟩, v5, r5, rfl, ⟨z5, rfl, w5⟩, v6, r6, rfl, ⟨z6, rfl, w6⟩, v7, r7, rfl, ⟨z7, rfl, w7⟩, v8, r8, rfl, ⟨z8, rfl, w8⟩, v9, r9, rfl, ⟨z9, rfl, w9⟩, v10, r10, rfl, ⟨z10, rfl, w10⟩, v11, r11, rfl, ⟨z11, rfl, w11⟩, v12, r12, rfl, ⟨z12, rfl, w12⟩, rfl⟩ := h
  obtain ⟨n0, rfl, h0⟩ := Ro.wf_u8 w0
  obtain ⟨n1, rfl, h1⟩ := Ro.wf_u8 w1
  obtain ⟨n2, rfl, h2⟩ := Ro.wf_u64 w2
  have h3 := Ro.wf_i64 w3
  obtain ⟨n4, rfl, h4⟩ := Ro.wf_u64 w4
  obtain ⟨n5, rfl, h5⟩ := Ro.wf_u64 w5
  obtain ⟨n6, rfl, h6⟩ := Ro.wf_u64 w6
  obtain ⟨n7, rfl, h7⟩ := Ro.wf_u64 w7
  obtain ⟨n8, rfl, h8⟩ := Ro.wf_u64 w8
  obtain ⟨n9, rfl, h9⟩ := Ro.wf_u64 w9
  obtain ⟨n10, rfl, h10⟩ := Ro.wf_u64 w10
  obtain ⟨n11, rfl, h11⟩ := Ro.wf_u64 w11
  obtain ⟨n12, rfl, h12⟩ := Ro.wf_u64 w12
  refine ⟨n0, n1, n2, z3, n4, fun k => match k with | 0 => n5 | 1 => n6 | 2 => n7 | 3 => n8 | 4 => n9 | 5 => n10 | 6 => n11 | 7 => n12 | _ => 0, rfl, h2, h3.1, h3.2, h4, fun k => ?_⟩
  rcases k with _ | _ | _ | _ | _ | _ | _ | _ | k <;> first | assumption | (show (0 : Nat) < 18446744073709551616; decide)

/-- The powers of ten, as start-up laid them. -/
theorem tab_met {w : World} (h : laidMetH Tryd.prog Rows.pmpBehindRow.laid w) : Lib.TabIs Tryd.prog w "math/bits.deBruijn64tab" .u8 (Lib.deBruijn64tab.map fun (n : Nat) => (n : Int)) := by
  rw [MakeChecks.laidMetH_plain _ _ _ (by kernel_rfl)] at h
  have hm : ("math/bits.deBruijn64tab", DataW.agg ((Lib.deBruijn64tab.map fun (n : Nat) => (n : Int)).map fun z => .lit (.int .u8 z))) ∈ Rows.pmpBehindRow.laid := by simp [Rows.pmpBehindRow, Rows.laid_math_bits_deBruijn64tab, Lib.deBruijn64tab, List.range, List.range.loop]
  first
    | exact tabIs_of_laid (g := 0) h hm (by kernel_rfl) rfl rfl rfl (by kernel_rfl) (by kernel_rfl)
    | exact tabIs_of_laid (g := 1) h hm (by kernel_rfl) rfl rfl rfl (by kernel_rfl) (by kernel_rfl)
    | exact tabIs_of_laid (g := 2) h hm (by kernel_rfl) rfl rfl rfl (by kernel_rfl) (by kernel_rfl)
/-- The heap that start-up leaves meets the condition. -/
theorem door_met (H : Type) (os : Os) (args : Array Value) : laidMetH Tryd.prog Rows.pmpBehindRow.laid ((World.doorLaid Tryd.prog 400 os).forCall (fun _ _ => 0) ⟨#[], args, []⟩).memory :=
  laidMetH_of_parts3 (fuel := 8) (laidMet_of_run' 8 (by kernel_rfl) (by kernel_rfl)) (by kernel_rfl) (by kernel_rfl)
set_option maxRecDepth 100000 in
theorem law_lifted (os : Os) (started : os.Started) (H : Type) (enc : TypeId × Value → H) :
    ReturnsInHanded {} Tryd.checked os 6 .any (fun w args => (Rows.pmpBehindSpec.pre enc Tryd.prog Tryd.f6 [] false w args ∧ laidMetH Tryd.prog Rows.pmpBehindRow.laid w) ∧ sizedMet enc Tryd.prog Tryd.f6 (OpenSpec.ofChange Rows.pmpBehindSpec) false w args)
      (Rows.pmpBehindSpec.post enc Tryd.prog Tryd.f6 false true false false) := by
  refine returnsInHanded_of_change_and (C := Tryd.checked) (X := fun w _ => laidMetH Tryd.prog Rows.pmpBehindRow.laid w) (fun _ _ _ hh h => h.of_heap hh) Tryd.own started (by kernel_rfl) Tryd.func6
    (ChangeSpec.witness_shaped (enc := enc) (C := Tryd.checked) (os := os) (X := fun w _ => laidMetH Tryd.prog Rows.pmpBehindRow.laid w) false (World.doorLaid Tryd.prog 400 os) #[.int .u64 0, .agg (arr fun _ => 0), .agg #[.int .u8 0, .int .u8 0, .int .u64 0, .int .i64 0, .int .u64 0, .int .u64 0, .int .u64 0, .int .u64 0, .int .u64 0, .int .u64 0, .int .u64 0, .int .u64 0, .int .u64 0]] 8 rfl (World.shaped_of_RefB (by kernel_rfl) (by kernel_rfl)) (by kernel_rfl) (by kernel_rfl) (by kernel_rfl) (door_met H os _)) ?_
  intro W base args ds gs before hval0 hW _ _ hL _
  have hTab := tab_met hL
  have hval : ∀ (j : Nat) t v, Tryd.f6.params[j]? = some t → args[j]? = some v → Value.okWide Tryd.prog W .any base t v := hval0
  have hW' := hW
  obtain ⟨p, q, hA0, hV, rfl, hfz, hnd⟩ := hW
  have hA : DataW.TrodAll enc Tryd.prog W 0 (fun _ => true) true Tryd.f6.params.toList args.toList ds p := hA0
  obtain ⟨rfl, rfl⟩ := trodVars_none hV
  have hA2 := hA
  rw [Tryd.params6] at hA2
  obtain ⟨v0, vs0, d0, ds0, p0, q0, hargs, rfl, rfl, h0, r0⟩ := trodAll_cons hA2
  obtain ⟨v1, vs1, d1, ds1, p1, q1, rfl, rfl, rfl, h1, r1⟩ := trodAll_cons r0
  obtain ⟨v2, vs2, d2, ds2, p2, q2, rfl, rfl, rfl, h2, r2⟩ := trodAll_cons r1
  obtain ⟨rfl, rfl, rfl⟩ := trodAll_nil r2
  obtain rfl : args = #[v0, v1, v2] := by cases args; simp_all
  obtain ⟨z0, rfl, _, _, wf0⟩ := open_int Tryd.underlying22 (hval 0 22 v0 (by rw [Tryd.params6]; rfl) rfl) h0
  obtain ⟨A1, rfl, hA1⟩ := open_regs (hval 1 23 v1 (by rw [Tryd.params6]; rfl) rfl) h1
  obtain ⟨l2, rfl, g2⟩ := Ro.open_flat Tryd.underlying39 (ks := [.num .u8, .num .u8, .num .u64, .num .i64, .num .u64, .num .u64, .num .u64, .num .u64, .num .u64, .num .u64, .num .u64, .num .u64, .num .u64]) (by kernel_rfl) (hval 2 39 v2 (by rw [Tryd.params6]; rfl) rfl) h2
  clear hA0 hval0
  have walk : Calls Tryd.prog 6 #[.int .u64 z0, .agg (arr A1), .agg l2.toArray] W (Yes W) := by
    obtain ⟨n, rfl, hn⟩ := Ro.wf_u64 wf0
    obtain ⟨mode, kind, at', z, C, B, hX, ha, hz0, hz1, hC, hB⟩ := oth_of g2
    rw [hX]
    exact behind_any (tz_of hTab) (Below.refl _ _) n A1 mode kind at' z C B hn hA1 hz0 hz1 ha hC hB
  refine walk.mono fun e W' ⟨he, bel⟩ => ?_
  subst he
  exact ⟨_, rfl, _, _, _, [], _, [], hW', trodAll_mk1 (shut_bool Tryd.underlying4 _), Ro.trodAll_below Tryd.laidOut bel (by kernel_rfl) hA, rfl, bel.frame _, fun h => by cases h⟩

theorem law_over : Rows.pmpBehindRow.holds Tryd.pinned (OpenSpec.ofChange Rows.pmpBehindSpec) :=
  OpenClaim.holds_of_wide 6 Tryd.f6 rfl rfl rfl rfl rfl rfl rfl ⟨rfl, rfl, rfl, rfl, rfl⟩ rfl rfl rfl rfl rfl (by kernel_rfl) Tryd.func6 (by kernel_rfl)
    (of_decide_eq_true (by kernel_rfl)) (by unfold Func.isWrapper; first | (rw [if_pos (by decide +kernel)]; kernel_rfl) | (rw [if_neg (by decide +kernel)]; exact ⟨rfl, rfl⟩))
    (fun os started H enc _ => law_lifted os started H enc)

theorem pmpBehind_holds : Rows.PmpBehindCardSaid :=
  Claim7.holds_tied_plain_at .later [] [.data] true (true, "dc9f75e384e940edef9346394cd41a73b0a9077bb8f2b3a4c8d0401c6da75800") false
    law_over (fun _ h => by cases h) (by kernel_rfl) (fun _ h => by cases h) pmpBehind_row_tie rfl ⟨rfl, rfl⟩ (by kernel_rfl) rfl
    (fun f fn hf hfn => by
      obtain rfl : f = 6 := Option.some.inj ((show Tryd.prog.funcNamed "almonry/almonrylaw09.PmpBehind" = some 6 by kernel_rfl).symm.trans hf) |>.symm
      obtain rfl : fn = Tryd.f6 := (Option.some.inj (Tryd.func6.symm.trans hfn)).symm
      exact ⟨by kernel_rfl, fun j t ht => by
        rw [Tryd.params6] at ht
        rcases j with _ | _ | _ | _ <;> simp at ht <;> (subst ht; kernel_rfl)⟩)
    (by kernel_rfl)
end Go.Proofs.YtcgklflflfemnaaDoor
