/- Calls that are kept, whose answer is told by the refuter: a number that can only be that literal. -/
import Derived.Test.YtffhbmkpcenkoaaDoorTk
import Derived.Test.YtffhbmkpcenkoaaDoorSy
set_option linter.unusedVariables false
set_option linter.unusedSimpArgs false
namespace Go.Proofs.YtffhbmkpcenkoaaDoor.Sx
open Go Go.RowKit
noncomputable section

/-- Can it be another number than this, where all this holds? -/
def litR (k : IntKind) (n : Int) (u : V) (pc : Pc) : Bool := match u with
  | .n k' x => kindSame k k' && refute ((.eq x (.lit n), false) :: pc)
  | _ => false
def sameR (v u : V) (pc : Pc) : Bool := match V.same u v with
  | true => true
  | false => match v with
    | .n k (.lit n) => litR k n u pc
    | _ => false
def allSameR (v : V) : List (V × St) → Bool
  | [] => true
  | (u, st) :: l => (sameR v u st.pc || refute st.pc) && allSameR v l
def keptOkR (P : Program) (ts : List Tab) (base : Ev) (lf n : Nat) : List Kept → Bool
  | [] => true
  | k :: l => (V.plainL k.args && V.plain k.val) && ((match ev P (tabGlob ts) base lf n [] k.fn k.args (stTab ts []) with
    | some ways => allSameR k.val ways
    | none => false) && keptOkR P ts base lf n l)
theorem litR_ok {k : IntKind} {n : Int} {u : V} {pc : Pc} (h : litR k n u pc = true) {e : Env} (hh : Holds e.int pc) : u.den e = (V.n k (.lit n)).den e := by
  unfold litR at h
  split at h
  · rename_i k' x
    rw [Bool.and_eq_true] at h
    have hk := kindSame_eq h.1
    subst hk
    have : x.den e.int = n := Classical.byContradiction fun hne => refute_ok h.2 e.int fun c t hm => by
      rcases List.mem_cons.1 hm with heq | hm
      · cases heq
        simp only [N.den, bI_ne, ieq_iff]
        simp [hne]
      · exact hh _ _ hm
    simp only [V.den, this, N.den]
  · cases h
theorem allSameR_ok {v : V} : ∀ {l : List (V × St)}, allSameR v l = true → ∀ u st, (u, st) ∈ l → ∀ {e : Env}, Holds e.int st.pc → u.den e = v.den e
  | (w, s) :: l, h, u, st, hm, e, hh => by
    simp only [allSameR, Bool.and_eq_true] at h
    rcases List.mem_cons.1 hm with heq | hm
    · cases heq
      rw [Bool.or_eq_true] at h
      rcases h.1 with h1 | h1
      · unfold sameR at h1
        split at h1
        · rename_i hs
          rw [V.same_eq hs]
        · split at h1
          · exact litR_ok h1 hh
          · cases h1
      · exact (refute_ok h1 _ hh).elim
    · exact allSameR_ok h.2 u st hm hh
theorem keptR_is {P : Program} {ts : List Tab} {base : Ev} (hb : Snd P (tabGlob ts) base) (hm : P.follows .mixedOrders = true) (hlen : Nat.ble ts.length 1000 = true) (hd : distinct ts = true) {lf n : Nat} : ∀ {l : List Kept}, keptOkR P ts base lf n l = true → ∀ k ∈ l, k.isT P ts
  | [], _, k, h => by cases h
  | k' :: l, h, k, hmem => by
    simp only [keptOkR, Bool.and_eq_true] at h
    obtain ⟨⟨h1, h2⟩, h3, h4⟩ := h
    rcases List.mem_cons.1 hmem with heq | hmem
    · subst heq
      refine ⟨h1, h2, fun e w hw => ?_⟩
      have hl := Nat.le_of_ble_eq_true hlen
      have lat : Later (envTab ts e.int e.val) e .nil .nil := ⟨rfl, rfl, fun _ h => h, fun i h => absurd rfl h, fun i h => absurd rfl h, fun i h => absurd rfl h, fun i h => absurd rfl h⟩
      cases hq : ev P (tabGlob ts) base lf n [] k.fn k.args (stTab ts []) with
      | none => rw [hq] at h3; cases h3
      | some ways =>
        rw [hq] at h3
        have hx := (callsIn_wide (n := 0)).1 (ev_ok hb hm n [] k.fn k.args (stTab ts []) ways hq (envTab ts e.int e.val) (fun _ => False) w w rs0 (repTab hl hd e.int e.val hw) (gokTab hl e.int e.val) (fun _ _ h => by cases h) (V.plainL_ok _ h1) (fun x w' => x = .returned (k.val.den e) ∧ Below w.heap.size w w') fun u st' hmem' e' w' haf hv => ?_)
        · rwa [← V.denL_later lat (V.plainL_ok _ h1)] at hx
        · refine ⟨?_, haf.rep.below⟩
          have a := V.den_later haf.later (v := k.val) (V.plain_ok _ h2)
          have b := V.den_later lat (v := k.val) (V.plain_ok _ h2)
          rw [allSameR_ok h3 u st' hmem' haf.holds, a, b]
    · exact keptR_is hb hm hlen hd h4 k hmem
end
end Go.Proofs.YtffhbmkpcenkoaaDoor.Sx
