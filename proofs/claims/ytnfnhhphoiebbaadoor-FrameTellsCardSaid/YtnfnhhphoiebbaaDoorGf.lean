/- The document's Next. -/
import Derived.Test.YtnfnhhphoiebbaaDoorGe
set_option linter.unusedVariables false
set_option linter.unusedSimpArgs false
namespace Go.Proofs.YtnfnhhphoiebbaaDoor
open Go.RowKit
section
variable {w w' : World} {b off cap : Nat} {l : List Win}
set_option maxHeartbeats 1000000 in
theorem dnext_any (hf : Fm w b off cap l) (hp : ∀ v ∈ l, 0 < v.2) (g st : Nat) (hg : g < 256) (hst : st < 18446744073709551616) : Calls Tryd.prog 13 #[.slice (some ⟨b, off, none⟩) (tot l) cap, .int .u8 g, .int .u64 st] w fun e w' => ∃ v, NxA l g st v ∧ e = .returned v ∧ w = w' := by
  have t1 : (0 : Int) < (tot l : Int) := by have := hf.pos; omega
  have t2 : (tot l : Int) ≤ 1024 := by have := hf.top; omega
  have t3 : ((tot l : Int) == 0) = false := beq_eq_false_iff_ne.2 (by omega)
  have t4 : ¬ ((tot l : Int) = 0) := by omega
  have HQ := Lib.hid hf
  have HP := Lib.hid hp
  have hmp : st % tot l < tot l := Nat.mod_lt _ hf.pos
  obtain ⟨tn, htn⟩ : ∃ tn, tn = tot l := ⟨_, rfl⟩
  have HT := Lib.hid htn
  rw [← htn] at t1 t2 t3 t4 hmp ⊢
  have hmt : (st : Int).tmod (tn : Int) = ((st % tn : Nat) : Int) := rfl
  have hmd : (st : Int) % (tn : Int) = ((st % tn : Nat) : Int) := rfl
  obtain ⟨rn, hrn⟩ : ∃ rn, rn = st % tn := ⟨_, rfl⟩
  have HR := Lib.hid hrn
  rw [← hrn] at hmt hmd hmp
  clear hf hp htn hrn
  go_enter Tryd.func13, Tryd.ntmps13
  go_wp2
  go_loop [9] (fun c => ∃ k : Nat, k ≤ tn ∧ c = .int .u64 k ∧ st + k ≤ 18446744073709551616 ∧ ∀ j, j < k → (fr l).getD ((st + j) % tn) 0 ≠ g) (fun c => tn - (intOf c).toNat)
  case atStart => exact ⟨0, Nat.zero_le _, rfl, by omega, fun j hj => absurd hj (by omega)⟩
  case round =>
    obtain ⟨k, hk, rfl, hsk, hall⟩ := hrel
    have k1 : (0 : Int) ≤ (k : Int) := Int.natCast_nonneg _
    have HA := Lib.hid hall
    clear hall
    by_cases hlt : k < tn
    · have k2 : (k : Int) < (tn : Int) := by omega
      by_cases hov : st + k < 18446744073709551616
      · have hv1 : decide ((18446744073709551615 : Int) - (st : Int) < (k : Int)) = false := decide_eq_false (by omega)
        have hv3 : IntKind.u64.wrap ((st : Int) + (k : Int)) = (st : Int) + (k : Int) := by
          show ((st : Int) + (k : Int)) % 18446744073709551616 = _
          omega
        have hr1 : (rn : Int) + (k : Int) = ((rn + k : Nat) : Int) := by omega
        have hr2 : (rn : Int) + (k : Int) < 4096 := by omega
        have r0 : (0 : Int) ≤ (rn : Int) := Int.natCast_nonneg _
        have hq2 : ((rn : Int) + (k : Int)).tmod (tn : Int) = (((rn + k) % tn : Nat) : Int) := by rw [hr1]; rfl
        have hq3 : ((rn : Int) + (k : Int)) % (tn : Int) = (((rn + k) % tn : Nat) : Int) := by rw [hr1]; rfl
        have hpl : (rn + k) % tn < tn := Nat.mod_lt _ (by omega)
        have hme : (rn + k) % tn = (st + k) % tn := by rw [HR.out, Nat.mod_add_mod]
        have hc := HQ.out.cell (k := (rn + k) % tn) (by rw [← HT.out]; exact hpl)
        have hx8 := HQ.out.at_lt (k := (rn + k) % tn) (by rw [← HT.out]; exact hpl)
        have HM := Lib.hid hme
        have HE := Lib.hid (congrArg (fun z => (fr l).getD z 0) hme)
        clear hme hr1
        generalize (fr l).getD ((rn + k) % tn) 0 = x at hc hx8 HE
        generalize (rn + k) % tn = pn at hq2 hq3 hpl hc HM
        have p0 : (0 : Int) ≤ (pn : Int) := Int.natCast_nonneg _
        have p1 : (pn : Int) < (tn : Int) := by omega
        have p2 : IntKind.u64.wrap (pn : Int) = (pn : Int) := by
          show (pn : Int) % 18446744073709551616 = _
          omega
        have p3 : IntKind.u64.wrap (rn : Int) = (rn : Int) := by
          show (rn : Int) % 18446744073709551616 = _
          omega
        have hO := Lib.hid hov
        clear hov
        by_cases hxg : x = g
        · have e1 : ((x : Int) == (g : Int)) = true := by simp [hxg]
          have HV := Lib.hid hxg
          clear hxg
          go_wp2
          go_ret2
          refine ⟨_, .inr ⟨k, ⟨by rw [← HT.out]; omega, ?_, ?_⟩, .inl ⟨hO.out, rfl⟩⟩, rfl, rfl⟩
          · rw [← HT.out]; exact HE.out.symm.trans HV.out
          · rw [← HT.out]; exact HA.out
        · have e1 : ((x : Int) == (g : Int)) = false := beq_eq_false_iff_ne.2 (by omega)
          have HV := Lib.hid hxg
          clear hxg
          go_wp2
          go_round
          case rel => exact ⟨k + 1, by omega, by go_num, by have := hO.out; omega, fun j hj => by
            by_cases hjk : j < k
            · exact HA.out j hjk
            · obtain rfl : j = k := by omega
              intro e
              exact HV.out (HE.out.trans e)⟩
          case measure => simp [intOf]; omega
      · have hv1 : decide ((18446744073709551615 : Int) - (st : Int) < (k : Int)) = true := decide_eq_true (by omega)
        have hO := Lib.hid hov
        clear hov
        go_wp2
        go_ret2
        exact ⟨_, NxA.late HP.out HQ.out.pos (by rw [← HT.out]; exact HA.out) (by have := hO.out; omega), rfl, rfl⟩
    · obtain rfl : k = tn := by omega
      go_wp2
      go_ret2
      exact ⟨_, NxA.none HP.out HQ.out.pos (by rw [← HT.out]; exact HA.out), rfl, rfl⟩
end
end Go.Proofs.YtnfnhhphoiebbaaDoor
