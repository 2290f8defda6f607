/- Which memories are the same: the document's Same. -/
import Derived.Test.YtjdedgfbonlmkaaDo
set_option linter.unusedVariables false
set_option linter.unusedSimpArgs false
namespace Go.Proofs.Ytjdedgfbonlmkaa
open Go.RowKit
section
variable {w w' : World} {B B1 B2 g1 g2 N1 N2 A1 A2 W1 W2 D1 D2 C1 C2 base1 base2 : Nat} {l1 l2 : List UInt8} {L1 L2 : List Ent} {v1 v2 : Value}
theorem part_any (h1 : Dm w C1 N1 D1 W1 l1 base1 L1 v1) (h2 : Dm w C2 N2 D2 W2 l2 base2 L2 v2) : Calls Try.prog 39 #[.pointer (some ⟨C1, 0, none⟩), .pointer (some ⟨C2, 0, none⟩)] w fun e w' => e = .returned (.bool (partL L1 L2)) ∧ ∃ n, w' = w.drewN n := by
  obtain ⟨av, cap, rfl, hav⟩ := own_row h1.own
  have H1 := Lib.hid (fun n => h1.over (below_drewN (Below.refl _ w) n))
  have H2 := Lib.hid (fun n => h2.over (below_drewN (Below.refl _ w) n))
  have HAV := Lib.hid hav
  have hLn := h1.lN
  clear h1 h2 hav
  go_enter Try.func39, Try.ntmps39
  go_wp2
  go_loopw [5] (fun i wr => ∃ k n : Nat, k ≤ L1.length ∧ i = .int .i64 k ∧ wr = w.drewN n ∧ ∀ (j : Nat) (e : Ent), j < k → L1[j]? = some e → dby L2 e.1 = e.2) (fun i _ => L1.length - (intOf i).toNat)
  case atStart => exact ⟨0, 0, Nat.zero_le _, rfl, rfl, fun j e h => by omega⟩
  case round =>
    obtain ⟨k, n, hk, rfl, hwn, hall⟩ := hrel
    have HX1 := Lib.hid (H1.out n)
    have HX2 := Lib.hid (H2.out n)
    rw [← hwn] at HX1 HX2
    have HW := Lib.hid hwn
    have HALL := Lib.hid hall
    have c1 := HX1.out.box.read 1
    clear hwn hall
    have k1 : (0 : Int) ≤ (k : Int) := Int.natCast_nonneg _
    by_cases hlt : k < L1.length
    · have k2 : (k : Int) < (L1.length : Int) := by omega
      obtain ⟨gr, rfl⟩ : ∃ gr, av = some ⟨gr, 0, none⟩ := by
        rcases HAV.out with ⟨h0, _⟩ | ⟨gr, cur, e, _⟩
        · omega
        · exact ⟨gr, e⟩
      have he : L1[k]? = some L1[k] := List.getElem?_eq_getElem hlt
      generalize L1[k] = e at he
      obtain ⟨x1, x2⟩ := ents_get he
      have d0 := (World.ownsRow.cellAt HX1.out.own (k * 2) (by omega)).trans x1
      have d1 := (World.ownsRow.cellAt HX1.out.own (k * 2 + 1) (by omega)).trans x2
      obtain ⟨e1, e2⟩ := e
      simp only at d0 d1
      have HE := Lib.hid he
      have HB := Lib.hid (fun m => dbyte_any (HX2.out.over (below_drewN (Below.refl _ _) m)) e1)
      clear x1 x2 he
      by_cases hq : dby L2 e1 = e2
      · rw [hq] at HB
        have HB2 := Lib.hid (fun m => (HB.out m).mono (fun e w' h => (⟨h.1, h.2.symm⟩ : e = _ ∧ w' = _)))
        have HQ := Lib.hid hq
        clear hq
        go_wp2
        go_quiet ((go_at_call 50; exact Calls.quiet_of_same (HB2.out _)))
        go_wp2
        go_roundw
        case rel => exact ⟨k + 1, n + nq, by omega, by go_num, by rw [HW.out, World.drewN_drewN], fun j f hj hf => by
          by_cases hjk : j = k
          · subst hjk
            rw [HE.out] at hf
            cases hf
            exact HQ.out
          · exact HALL.out j f (by omega) hf⟩
        case measure => simp [intOf]; omega
      · have hpf : partL L1 L2 = false := by
          unfold partL
          rw [List.all_eq_false]
          exact ⟨(e1, e2), List.mem_of_getElem? HE.out, by simpa using hq⟩
        have hne : ¬ ((dby L2 e1).toNat = e2.toNat) := fun h => hq (UInt8.toNat_inj.1 h)
        generalize (dby L2 e1).toNat = x at hne HB
        generalize e2.toNat = y at hne d1
        have HB2 := Lib.hid (fun m => (HB.out m).mono (fun e w' h => (⟨h.1, h.2.symm⟩ : e = _ ∧ w' = _)))
        have r1 : ((x : Int) == (y : Int)) = false := beq_eq_false_iff_ne.2 (by omega)
        have r2 : ¬ ((x : Int) = (y : Int)) := by omega
        have HPF := Lib.hid hpf
        clear hq hne hpf
        go_wp2
        go_quiet ((go_at_call 50; exact Calls.quiet_of_same (HB2.out _)))
        go_wp2
        go_ret
        exact ⟨bool_eq HPF.out.symm, n + nq, by rw [HW.out, World.drewN_drewN]⟩
    · have hpf : partL L1 L2 = true := by
        unfold partL
        rw [List.all_eq_true]
        intro e he
        obtain ⟨j, hj⟩ := List.mem_iff_getElem?.1 he
        have := HALL.out j e (by have := (List.getElem?_eq_some_iff.1 hj).1; omega) hj
        simpa using this
      have HPF := Lib.hid hpf
      clear hpf
      go_wp2
      go_ret
      exact ⟨bool_eq HPF.out.symm, n, HW.out⟩
theorem dsame_any (h1 : Dm w C1 N1 D1 W1 l1 base1 L1 v1) (h2 : Dm w C2 N2 D2 W2 l2 base2 L2 v2) (hne : C1 ≠ C2) (b : Bool) (hb : b = (decide (l1 = l2) && (decide (W1 = W2) && (decide (W1 = 0) || decide (D1 = D2))))) : Calls Try.prog 21 #[.pointer (some ⟨C1, 0, none⟩), .pointer (some ⟨C2, 0, none⟩)] w fun e w' => e = .returned (.bool b) ∧ ∃ n, w' = w.drewN n := by
  have a0 : w.cell? ⟨C1, 0, none⟩ = some (.int .u64 N1) := h1.box.read 0
  have a2 : w.cell? ⟨C1, 2, none⟩ = some (.int .u64 D1) := h1.box.read 2
  have a3 : w.cell? ⟨C1, 3, none⟩ = some (.int .i64 W1) := h1.box.read 3
  have b0 : w.cell? ⟨C2, 0, none⟩ = some (.int .u64 N2) := h2.box.read 0
  have b2 : w.cell? ⟨C2, 2, none⟩ = some (.int .u64 D2) := h2.box.read 2
  have b3 : w.cell? ⟨C2, 3, none⟩ = some (.int .i64 W2) := h2.box.read 3
  obtain ⟨pf, hpf, f1, f2⟩ : ∃ pf : Nat → Nat → Bool, (∀ X Y n, ((X = C1 ∧ Y = C2) ∨ (X = C2 ∧ Y = C1)) → Calls Try.prog 39 #[.pointer (some ⟨X, 0, none⟩), .pointer (some ⟨Y, 0, none⟩)] (w.drewN n) fun e w' => e = .returned (.bool (pf X Y)) ∧ ∃ m, w' = (w.drewN n).drewN m) ∧ pf C1 C2 = partL L1 L2 ∧ pf C2 C1 = partL L2 L1 := by
    refine ⟨fun X _ => if X = C1 then partL L1 L2 else partL L2 L1, ?_, if_pos rfl, if_neg (fun e => hne e.symm)⟩
    rintro X Y n (⟨rfl, rfl⟩ | ⟨rfl, rfl⟩)
    · simp only [if_true]
      exact part_any (h1.over (below_drewN (Below.refl _ w) n)) (h2.over (below_drewN (Below.refl _ w) n))
    · dsimp only
      rw [if_neg (fun e => hne e.symm)]
      exact part_any (h2.over (below_drewN (Below.refl _ w) n)) (h1.over (below_drewN (Below.refl _ w) n))
  have HPF := Lib.hid hpf
  have hn1 := h1.len
  have hn2 := h2.len
  have hmd := md_same h1.md h2.md
  rw [← f1, ← f2] at hmd
  clear h1 h2 hpf f1 f2
  by_cases q0 : N1 = N2
  · have hd := hmd (by omega)
    rw [← hd] at hb
    clear hmd hd
    subst q0
    cases p1 : pf C1 C2
    · rw [p1] at hb
      have hb' : b = false := by simpa using hb
      subst hb'
      clear hb
      go_enter Try.func21, Try.ntmps21
      go_wp2
      go_quiet ((go_at_call 39; exact Calls.quiet_of (HPF.out _ _ _ (by first | exact .inl ⟨rfl, rfl⟩ | exact .inr ⟨rfl, rfl⟩))))
      go_wp2
      go_ret
      exact ⟨rfl, _, rfl⟩
    · cases p2 : pf C2 C1
      · rw [p1, p2] at hb
        have hb' : b = false := by simpa using hb
        subst hb'
        clear hb
        go_enter Try.func21, Try.ntmps21
        go_wp2
        go_quiet ((go_at_call 39; exact Calls.quiet_of (HPF.out _ _ _ (by first | exact .inl ⟨rfl, rfl⟩ | exact .inr ⟨rfl, rfl⟩))))
        go_wp2
        go_ret
        exact ⟨rfl, _, rfl⟩
      · rw [p1, p2] at hb
        by_cases q1 : W1 = W2
        · subst q1
          by_cases q2 : W1 = 0
          · subst q2
            have hb' : b = true := by simpa using hb
            subst hb'
            clear hb
            go_enter Try.func21, Try.ntmps21
            go_wp2
            go_quiet ((go_at_call 39; exact Calls.quiet_of (HPF.out _ _ _ (by first | exact .inl ⟨rfl, rfl⟩ | exact .inr ⟨rfl, rfl⟩))))
            go_wp2
            go_ret
            exact ⟨rfl, _, rfl⟩
          · have r1 : ((W1 : Int) == 0) = false := beq_eq_false_iff_ne.2 (by omega)
            have r2 : ¬ ((W1 : Int) = 0) := by omega
            by_cases q3 : D1 = D2
            · subst q3
              have hb' : b = true := by simpa using hb
              subst hb'
              clear hb q2
              go_enter Try.func21, Try.ntmps21
              go_wp2
              go_quiet ((go_at_call 39; exact Calls.quiet_of (HPF.out _ _ _ (by first | exact .inl ⟨rfl, rfl⟩ | exact .inr ⟨rfl, rfl⟩))))
              go_wp2
              go_ret
              exact ⟨rfl, _, rfl⟩
            · have hb' : b = false := by simpa [q2, q3] using hb
              have r3 : ((D1 : Int) == (D2 : Int)) = false := beq_eq_false_iff_ne.2 (by omega)
              have r4 : ¬ ((D1 : Int) = (D2 : Int)) := by omega
              subst hb'
              clear hb q2 q3
              go_enter Try.func21, Try.ntmps21
              go_wp2
              go_quiet ((go_at_call 39; exact Calls.quiet_of (HPF.out _ _ _ (by first | exact .inl ⟨rfl, rfl⟩ | exact .inr ⟨rfl, rfl⟩))))
              go_wp2
              go_ret
              exact ⟨rfl, _, rfl⟩
        · have hb' : b = false := by simpa [q1] using hb
          have r1 : ((W1 : Int) == (W2 : Int)) = false := beq_eq_false_iff_ne.2 (by omega)
          have r2 : ¬ ((W1 : Int) = (W2 : Int)) := by omega
          subst hb'
          clear hb q1
          go_enter Try.func21, Try.ntmps21
          go_wp2
          go_quiet ((go_at_call 39; exact Calls.quiet_of (HPF.out _ _ _ (by first | exact .inl ⟨rfl, rfl⟩ | exact .inr ⟨rfl, rfl⟩))))
          go_wp2
          go_ret
          exact ⟨rfl, _, rfl⟩
  · have hl : l1 ≠ l2 := fun e => q0 (by rw [← hn1, ← hn2, e])
    have hb' : b = false := by simpa [hl] using hb
    have r1 : ((N1 : Int) == (N2 : Int)) = false := beq_eq_false_iff_ne.2 (by omega)
    have r2 : ¬ ((N1 : Int) = (N2 : Int)) := by omega
    subst hb'
    clear hb q0 hl hmd
    go_enter Try.func21, Try.ntmps21
    go_wp2
    go_quiet ((go_at_call 39; exact Calls.quiet_of (HPF.out _ _ _ (by first | exact .inl ⟨rfl, rfl⟩ | exact .inr ⟨rfl, rfl⟩))))
    go_wp2
    go_ret
    exact ⟨rfl, _, rfl⟩
end
end Go.Proofs.Ytjdedgfbonlmkaa
