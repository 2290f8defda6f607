/- Which memories are the same: the program's Same, the document's. -/
import Derived.Test.YtjdedgfbonlmkaaDl
set_option linter.unusedVariables false
set_option linter.unusedSimpArgs false
namespace Go.Proofs.Ytjdedgfbonlmkaa
open Go.RowKit
theorem str_beq (l m : List UInt8) : ((str l).toList == (str m).toList) = decide (l = m) := by
  rw [ByteArray.toList_eq, ByteArray.toList_eq]
  apply Bool.eq_iff_iff.2
  simp [str]
section
variable {w w' : World} {B B1 B2 g1 g2 N1 N2 A1 A2 W1 W2 D1 D2 C1 C2 base1 base2 : Nat} {l1 l2 : List UInt8} {L1 L2 : List Ent} {v1 v2 : Value}
theorem Rm.ownMem {g N A W : Nat} {l : List UInt8} (h : Rm w B g N A W l) : w.ownsRow 0 5 1 (.slice (some ⟨g, 0, none⟩) l.length N) l.length (vals l) :=
  ⟨by rw [vals_len, Nat.mul_one], .inr ⟨g, N, _, rfl, Nat.zero_le _, h.mem, by rw [h.len]; exact Nat.le_refl _, by have := h.top; unfold maxLen; omega, by rw [List.size_toArray, vals_len, h.len, Nat.mul_one], by rw [List.toList_toArray, Nat.mul_one, ← vals_len l, List.take_length]⟩⟩
theorem conv_all {g N A W : Nat} {l : List UInt8} (h : Rm w B g N A W l) : (convert 45 9 (.slice (some ⟨g, 0, none⟩) N N)).run Try.prog w = .ok (.string (str l)) w := by
  have hc := conv_own (acc := l) h.ownMem
  rwa [h.len] at hc
theorem equal_any (h1 : Rm w B1 g1 N1 A1 W1 l1) (h2 : Rm w B2 g2 N2 A2 W2 l2) : Calls Try.prog 38 #[.slice (some ⟨g1, 0, none⟩) N1 N1, .slice (some ⟨g2, 0, none⟩) N2 N2] w fun e w' => e = .returned (.bool (decide (l1 = l2))) ∧ w' = w := by
  have c1 := conv_all h1
  have c2 := conv_all h2
  have e1 := str_beq l1 l2
  generalize decide (l1 = l2) = b at e1
  clear h1 h2
  go_enter Try.func38, Try.ntmps38
  go_wp2
  go_ret
  exact ⟨rfl, rfl⟩
open Classical in
noncomputable def sameB (l1 : List UInt8) (A1 W1 : Nat) (l2 : List UInt8) (A2 W2 : Nat) : Bool := decide (l1 = l2 ∧ A1 = A2 ∧ W1 = W2)
theorem msame_any (h1 : Rm w B1 g1 N1 A1 W1 l1) (h2 : Rm w B2 g2 N2 A2 W2 l2) : Calls Try.prog 20 #[.pointer (some ⟨B1, 0, none⟩), .pointer (some ⟨B2, 0, none⟩)] w fun e w' => e = .returned (.bool (sameB l1 A1 W1 l2 A2 W2)) ∧ ∃ n, w' = w.drewN n := by
  have HE := Lib.hid (fun n => equal_any (h1.drawn n) (h2.drawn n))
  have a0 : w.cell? ⟨B1, 0, none⟩ = some (.slice (some ⟨g1, 0, none⟩) N1 N1) := h1.box.read 0
  have a1 : w.cell? ⟨B1, 1, none⟩ = some (.int .u64 A1) := h1.box.read 1
  have a2 : w.cell? ⟨B1, 2, none⟩ = some (.int .i64 W1) := h1.box.read 2
  have b0 : w.cell? ⟨B2, 0, none⟩ = some (.slice (some ⟨g2, 0, none⟩) N2 N2) := h2.box.read 0
  have b1 : w.cell? ⟨B2, 1, none⟩ = some (.int .u64 A2) := h2.box.read 1
  have b2 : w.cell? ⟨B2, 2, none⟩ = some (.int .i64 W2) := h2.box.read 2
  clear h1 h2
  have hv : sameB l1 A1 W1 l2 A2 W2 = (decide (l1 = l2) && (decide (A1 = A2) && decide (W1 = W2))) := by
    unfold sameB
    by_cases h1 : l1 = l2 <;> by_cases h2 : A1 = A2 <;> by_cases h3 : W1 = W2 <;> simp [h1, h2, h3]
  rw [hv]
  clear hv
  generalize decide (l1 = l2) = b at HE ⊢
  by_cases q1 : A1 = A2
  · by_cases q2 : W1 = W2
    · subst q1 q2
      rw [decide_eq_true rfl, decide_eq_true rfl]
      cases b
      all_goals
        go_enter Try.func20, Try.ntmps20
        go_wp2
        go_quiet ((go_at_call 38; exact Calls.quiet_of_same (HE.out _)))
        go_wp2
        go_ret
        exact ⟨rfl, _, rfl⟩
    · have r1 : ((W1 : Int) == (W2 : Int)) = false := beq_eq_false_iff_ne.2 (by omega)
      have r2 : ¬ ((W1 : Int) = (W2 : Int)) := by omega
      subst q1
      rw [decide_eq_true rfl, decide_eq_false q2]
      clear q2
      cases b
      all_goals
        go_enter Try.func20, Try.ntmps20
        go_wp2
        go_quiet ((go_at_call 38; exact Calls.quiet_of_same (HE.out _)))
        go_wp2
        go_ret
        exact ⟨rfl, _, rfl⟩
  · have r1 : ((A1 : Int) == (A2 : Int)) = false := beq_eq_false_iff_ne.2 (by omega)
    have r2 : ¬ ((A1 : Int) = (A2 : Int)) := by omega
    rw [decide_eq_false q1]
    clear q1
    cases b
    all_goals
      go_enter Try.func20, Try.ntmps20
      go_wp2
      go_quiet ((go_at_call 38; exact Calls.quiet_of_same (HE.out _)))
      go_wp2
      go_ret
      exact ⟨by simp, _, rfl⟩
end
end Go.Proofs.Ytjdedgfbonlmkaa
