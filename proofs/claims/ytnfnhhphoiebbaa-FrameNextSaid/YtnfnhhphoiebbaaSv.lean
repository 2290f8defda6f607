/- Calls by the reader, from memory of which nothing is known. -/
import Derived.Test.YtnfnhhphoiebbaaSu
import Derived.Below
import Derived.ProofKit
import Derived.OpenShut
import Derived.ShutString
import Derived.ChangeOld
set_option linter.unusedVariables false
set_option linter.unusedSimpArgs false
namespace Go.Proofs.Ytnfnhhphoiebbaa.Sx
open Go Go.RowKit

def noGlob : Nat → Option Nat := fun _ => none
def noBase : Ev := fun _ _ _ _ => none
theorem noBase_ok (P : Program) (glob : Nat → Option Nat) : Snd P glob noBase := by
  intro rs f args st ways h
  cases h
def st00 : St := { nxt := 0, hp := .nil, pc := [] }
def env0 (i : Nat → Int) (v : Nat → Value) : Env := { int := i, val := v, blk := fun _ => 0, cap := fun _ => 0, lps := fun _ => default, bas := fun _ => ⟨0, 0, none⟩ }
theorem rs0 {P : Program} {glob : Nat → Option Nat} {e : Env} {h : T} {S : Nat → Prop} {w0 : World} : RsOk P glob e h S w0 [] := fun _ _ h => by cases h
theorem rep0 (e : Env) (w : World) : Rep e (fun _ => False) w .nil w :=
  ⟨rfl, rfl, rfl, Nat.le_refl _, fun _ _ _ => rfl, fun i b h => (by cases h), fun i b h => (by cases h), fun i j b c h => (by cases h), fun i b h => (by cases h), fun i h => absurd rfl h⟩
theorem Rep.below {e : Env} {w0 w : World} {h : T} (r : Rep e (fun _ => False) w0 h w) : Below w0.heap.size w0 w :=
  ⟨r.os, r.tape, r.output, r.size, fun i hi => r.keep i hi id⟩
theorem holds0 (i : Nat → Int) : Holds i [] := fun _ _ h => by cases h

/-- Every way answers true. -/
def yes (ways : Option (List (V × St))) : Bool := match ways with
  | none => false
  | some l => allTrue l

theorem allTrue_ok : ∀ {l : List (V × St)}, allTrue l = true → ∀ v st, (v, st) ∈ l → ∃ x, v = .b x ∧ dec st.pc x = some true
  | [], _, v, st, h => by cases h
  | (u, s) :: l, h, v, st, hm => by
    simp only [allTrue, Bool.and_eq_true] at h
    rcases List.mem_cons.1 hm with heq | hm
    · cases heq
      have h1 := h.1
      split at h1
      · rename_i x
        split at h1
        · rename_i hd; exact ⟨x, rfl, hd⟩
        · cases h1
      · cases h1
    · exact allTrue_ok h.2 v st hm

/-- From truths that are known to hold. -/
def stPc (pc : Pc) : St := { nxt := 0, hp := .nil, pc := pc }
theorem calls_yes_pc {P : Program} {base : Ev} (hb : Snd P noGlob base) (hm : P.follows .mixedOrders = true) {lf n : Nat} {f : FuncId} {args : List V} {pc : Pc} (hok : V.okL .nil args) (hy : yes (ev P noGlob base lf n [] f args (stPc pc)) = true)
    (i : Nat → Int) (v : Nat → Value) (hi : Holds i pc) (w : World) : Calls P f (V.denL (env0 i v) args).toArray w fun e w' => e = .returned (.bool true) ∧ Below w.heap.size w w' := by
  cases hq : ev P noGlob base lf n [] f args (stPc pc) with
  | none => rw [hq] at hy; cases hy
  | some l =>
    rw [hq] at hy
    refine (callsIn_wide (n := 0)).1 (ev_ok hb hm n [] f args (stPc pc) l hq (env0 i v) (fun _ => False) w w rs0 (rep0 _ w) (fun g i h => (by cases h)) hi hok _ fun u st' hmem e' w' haf hv => ?_)
    obtain ⟨x, rfl, hd⟩ := allTrue_ok hy u st' hmem
    have := dec_tr haf.holds hd
    exact ⟨by rw [den_b, this], haf.rep.below⟩

/-- A call that the reader answers 'true', whatever stands open: it answers true, and turns nothing that was there. -/
theorem calls_yes {P : Program} {base : Ev} (hb : Snd P noGlob base) (hm : P.follows .mixedOrders = true) {lf n : Nat} {f : FuncId} {args : List V} (hok : V.okL .nil args) (hy : yes (ev P noGlob base lf n [] f args st00) = true)
    (i : Nat → Int) (v : Nat → Value) (w : World) : Calls P f (V.denL (env0 i v) args).toArray w fun e w' => e = .returned (.bool true) ∧ Below w.heap.size w w' := by
  cases hq : ev P noGlob base lf n [] f args st00 with
  | none => rw [hq] at hy; cases hy
  | some l =>
    rw [hq] at hy
    refine (callsIn_wide (n := 0)).1 (ev_ok hb hm n [] f args st00 l hq (env0 i v) (fun _ => False) w w rs0 (rep0 _ w) (fun g i h => (by cases h)) (holds0 _) hok _ fun u st' hmem e' w' haf hv => ?_)
    obtain ⟨x, rfl, hd⟩ := allTrue_ok hy u st' hmem
    have := dec_tr haf.holds hd
    exact ⟨by rw [den_b, this], haf.rep.below⟩
end Go.Proofs.Ytnfnhhphoiebbaa.Sx
