/- Same of the program. -/
import Derived.Test.YtgicehhenahfpaaV
import Derived.Test.YtgicehhenahfpaaX
set_option linter.unusedVariables false
set_option linter.unusedSimpArgs false
namespace Go.Proofs.Ytgicehhenahfpaa
open Go.RowKit
attribute [local go_sem] Oper.semAt_some
theorem wpQuiet_row {P : Program} {ops : Array Oper} {rest : List Oper} {C : World → Prop} {Q : Act → Prop} {o : Oper} {a : Act} (hgd : o.guard = none) (ty : TypeId) (x : Operand) (ho : o.op = .load ty x)
    (g : Nat) (hx : a.eval x = .pointer (some ⟨g, 0, none⟩)) (t : TypeId) (cs : Array Value) (d : TypeDesc) (hg : ∀ w, C w → Box w g t cs)
    (hu : P.underlying ty = some d) (hd : (match d with | .struct _ | .array _ _ => true | _ => false) = true) (hi : (P.info? ty).map (·.size) = some cs.size)
    (h : wpQuiet P ops C Q rest (a.put o.dst (.agg cs))) : wpQuiet P ops C Q (o :: rest) a :=
  BigFrame.wpQuiet_want (by simp [Region.wanted, hgd]) fun K hK => ⟨.agg cs, fun w hw => by
    unfold Oper.quietAt execOp
    simp only [ho, hx, Instr.loadAt, Instr.sureAddr, Sem.run_bind, Sem.run_pure, Result.andThen_ok, run_loadVar_row w g t ty cs (0, 0) d (hg w hw) hu hd hi]
    exact ⟨rfl, rfl⟩, hK _ h⟩
section
variable {m v n t m' v' n' t' : Int} {has has' : Bool} {s s' : ByteArray} {F F' : Nat → Bool} {B C : Nat} {w : World}
set_option maxHeartbeats 1000000 in
theorem same_any (hb : Box w B 57 (chan m v n has t s F)) (hc : Box w C 57 (chan m' v' n' has' t' s' F')) : Calls Try.prog 11 #[.pointer (some ⟨B, 0, none⟩), .pointer (some ⟨C, 0, none⟩)] w fun e w' => e = .returned (.bool (sameB m v n has t s F m' v' n' has' t' s' F')) ∧ ∃ j, w' = w.drewN j := by
  have HB := Lib.hid hb
  have HC := Lib.hid hc
  have r1 := fun w => eql_chan (m := m) (v := v) (n := n) (has := has) (t := t) (s := s) (F := F) (m' := m') (v' := v') (n' := n') (has' := has') (t' := t') (s' := s') (F' := F') w
  generalize sameB m v n has t s F m' v' n' has' t' s' F' = b at r1 ⊢
  clear hb hc
  go_enter Try.func11, Try.ntmps11
  go_wp2_with (first
    | (go_at_call 21; have hx := H1; clear hx H1; refine (isMade_any HC.out).mono ?_; rintro e w' ⟨rfl, rfl⟩)
    | (go_at_call 21; refine (isMade_any HB.out).mono ?_; rintro e w' ⟨rfl, rfl⟩; have H1 := trivial))
  refine wp_region_quiet_lit (by kernel_rfl) (by kernel_rfl) ?_
  repeat (first
    | (refine wpQuiet_row rfl 57 _ rfl B rfl 57 (chan m v n has t s F) _ (fun w' hw' => by obtain ⟨j, rfl⟩ := hw'; exact HB.out.drawn j) Try.underlying57 rfl rfl ?_; simp only [Act.put, List.setIfInBounds_toArray, List.set_cons_zero, List.set_cons_succ])
    | (refine wpQuiet_row rfl 57 _ rfl C rfl 57 (chan m' v' n' has' t' s' F') _ (fun w' hw' => by obtain ⟨j, rfl⟩ := hw'; exact HC.out.drawn j) Try.underlying57 rfl rfl ?_; simp only [Act.put, List.setIfInBounds_toArray, List.set_cons_zero, List.set_cons_succ])
    | go_big_quiet_step (fail))
  refine wpQuiet_nil ?_
  intro w9 hw9
  obtain ⟨nq, hw9⟩ := hw9
  subst hw9
  go_wp2
  go_ret
  exact ⟨rfl, _, rfl⟩
end
end Go.Proofs.Ytgicehhenahfpaa
