/- Places, each read with calls that are kept for it. -/
import Derived.Test.YthdhleaigphgeaaUd
set_option linter.unusedVariables false
set_option linter.unusedSimpArgs false
namespace Go.Proofs.Ythdhleaigphgeaa.Sx
open Go Go.RowKit
noncomputable section
section
variable {P : Program} {glob : Nat → Option Nat} {E : Ev} {lf : Nat} {body : Code} {f : FuncId} {fn : Func} {ng n : Nat} {ps : List Place} {exc : List Pc} {w0 : World}

theorem placesE_ok (hm : P.follows .mixedOrders = true) (hf : P.funcs[f]? = some fn) (hglob : ∀ g i, glob g = some i → i < ng) (hexc : ∀ q ∈ exc, ∀ i, ¬ Holds i q) (hps : ∀ p ∈ ps, ∃ E : Ev, Snd P glob E ∧ placeYes P glob E lf body fn ng n ps exc p = true) (hpath : ∀ p ∈ ps, pathsOk p.stk) :
    ∀ (k : Nat), ∀ p ∈ ps, ∀ e w a, (p.meas.den e.int).toNat < k → Fm e p.st.hp (p.tm, []) a → GOk glob e p.st.hp → Rep e (fun _ => False) w0 p.st.hp w → Holds e.int p.st.pc → Runs P f (Yes w0) (p.stk.map (It.item body)) a w
  | 0, _, _, _, _, _, h, _, _, _, _ => by omega
  | k + 1, p, hp, e, w, a, hk, fm, g, r, hh => by
    have wf : ∀ p ∈ ps, p.wf = true := fun p hp => by
      obtain ⟨_, _, this⟩ := hps p hp
      unfold placeYes at this
      rw [Bool.and_eq_true] at this
      exact this.1
    obtain ⟨E, hE, hy⟩ := hps p hp
    unfold placeYes at hy
    rw [Bool.and_eq_true] at hy
    have h2 := hy.2
    split at h2
    · rename_i l hl
      refine drv_ok hm hf n true p.stk (p.tm, []) p.st l hl (hpath p hp) e w a ⟨hE, rs0, trivial⟩ fm g r hh ?_
      exact ends_ok hE hm hglob hexc h2 g wf fun q hq e2 w2 a2 f2 g2 r2 h2' hlt => placesE_ok hm hf hglob hexc hps hpath k q hq e2 w2 a2 (by have := hlt _ rfl; omega) f2 g2 r2 h2'
    · cases h2

/-- **A law that is gone through from place to place answers true.** -/
theorem law_of_placesE (hE : Snd P glob E) (hm : P.follows .mixedOrders = true) (hf : P.funcs[f]? = some fn) (hb : fn.body = some body) (hglob : ∀ g i, glob g = some i → i < ng) (hexc : ∀ q ∈ exc, ∀ i, ¬ Holds i q) (hps : ∀ p ∈ ps, ∃ E : Ev, Snd P glob E ∧ placeYes P glob E lf body fn ng n ps exc p = true) (hpath : ∀ p ∈ ps, pathsOk p.stk)
    {args : List V} {st : St} (hs : startYes P glob E lf body fn ng n ps exc args st = true) {e : Env} (ho : V.okL st.hp args) (g : GOk glob e st.hp) (r : Rep e (fun _ => False) w0 st.hp w0) (hh : Holds e.int st.pc) :
    Calls P f (V.denL e args).toArray w0 (Yes w0) := by
  refine (callsIn_wide (n := 0)).1 (Runs.calls hf hb ?_)
  unfold startYes at hs
  split at hs
  · rename_i l hl
    have wf : ∀ p ∈ ps, p.wf = true := fun p hp => by
      obtain ⟨_, _, this⟩ := hps p hp
      unfold placeYes at this
      rw [Bool.and_eq_true] at this
      exact this.1
    have fm : Fm e st.hp (args ++ List.replicate (fn.ntmps - args.length) .und, []) { tmps := (V.denL e args).toArray ++ Array.replicate (fn.ntmps - (V.denL e args).toArray.size) undef, defers := [] } := by
      refine ⟨⟨?_, ?_⟩, rfl, fun d hd => by cases hd⟩
      · rw [denL_append, denL_replicate]
        simp [denL_length, V.den]
      · refine okL_iff.2 fun v hv => ?_
        rcases List.mem_append.1 hv with h1 | h1
        · exact okL_iff.1 ho v h1
        · rw [List.eq_of_mem_replicate h1]; trivial
    have := drv_ok (R := Yes w0) (f := f) hm hf n true [.co 1] _ st l hl ⟨Nat.le_refl 1, trivial⟩ e w0 _ ⟨hE, rs0, trivial⟩ fm g r hh
      (ends_ok hE hm hglob hexc hs g wf fun q hq e2 w2 a2 f2 g2 r2 h2' _ => placesE_ok hm hf hglob hexc hps hpath ((q.meas.den e2.int).toNat + 1) q hq e2 w2 a2 (by omega) f2 g2 r2 h2')
    have hone : codeP body 1 = some body := rfl
    simpa only [List.map_cons, List.map_nil, (item_of hone).1] using this
  · cases hs
end
end
end Go.Proofs.Ythdhleaigphgeaa.Sx
