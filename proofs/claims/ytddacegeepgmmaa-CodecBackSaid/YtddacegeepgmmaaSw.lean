/- Calls that are given plain values and answer plain values, read once and kept: whatever memory holds, they answer so. -/
import Derived.Test.YtddacegeepgmmaaSv
set_option linter.unusedVariables false
set_option linter.unusedSimpArgs false
namespace Go.Proofs.Ytddacegeepgmmaa.Sx
open Go Go.RowKit
noncomputable section

mutual
/-- A value with no place in memory. -/
def V.plain : V → Bool
  | .und => true
  | .n _ _ => true
  | .b _ => true
  | .s _ => true
  | .nilp => true
  | .nils => true
  | .nilm => true
  | .nilf => true
  | .nili => true
  | .ifc _ v => V.plain v
  | .agg l => V.plainL l
  | .tup l => V.plainL l
  | _ => false
def V.plainL : List V → Bool
  | [] => true
  | v :: l => V.plain v && V.plainL l
end
mutual
theorem V.plain_ok (h : T) : ∀ {v : V}, V.plain v = true → V.ok h v
  | .und, _ => trivial
  | .n _ _, _ => trivial
  | .b _, _ => trivial
  | .s _, _ => trivial
  | .ptr _ _, hp => by simp [V.plain] at hp
  | .nilp, _ => trivial
  | .slc _ _ _ _, hp => by simp [V.plain] at hp
  | .slo _ _ _ _, hp => by simp [V.plain] at hp
  | .nils, _ => trivial
  | .map _, hp => by simp [V.plain] at hp
  | .nilm, _ => trivial
  | .fn _ _ _, hp => by simp [V.plain] at hp
  | .nilf, _ => trivial
  | .ifc _ v, hp => by
    simp only [V.ok]
    exact V.plain_ok h (v := v) (by simpa [V.plain] using hp)
  | .nili, _ => trivial
  | .agg l, hp => by
    simp only [V.ok]
    exact V.plainL_ok h (l := l) (by simpa [V.plain] using hp)
  | .tup l, hp => by
    simp only [V.ok]
    exact V.plainL_ok h (l := l) (by simpa [V.plain] using hp)
  | .opq _, hp => by simp [V.plain] at hp
  | .any _, hp => by simp [V.plain] at hp
  | .sls _ _, hp => by simp [V.plain] at hp
  | .pts _ _ _ _, hp => by simp [V.plain] at hp
  | .alt _ _ _, hp => by simp [V.plain] at hp
theorem V.plainL_ok (h : T) : ∀ {l : List V}, V.plainL l = true → V.okL h l
  | [], _ => trivial
  | v :: l, hp => by
    simp only [V.plainL, Bool.and_eq_true] at hp
    exact ⟨V.plain_ok h hp.1, V.plainL_ok h hp.2⟩
end

/-- What is kept of a call: function, arguments, answer. -/
structure Kept where
  fn : Nat
  args : List V
  val : V

def allSame (v : V) : List (V × St) → Bool
  | [] => true
  | (u, _) :: l => V.same u v && allSame v l
def keptOk (P : Program) (glob : Nat → Option Nat) (base : Ev) (lf n : Nat) : List Kept → Bool
  | [] => true
  | k :: l => (V.plainL k.args && V.plain k.val) && ((match ev P glob base lf n [] k.fn k.args st00 with
    | some ways => allSame k.val ways
    | none => false) && keptOk P glob base lf n l)

/-- Is so, whatever memory holds. -/
def Kept.is (P : Program) (k : Kept) : Prop :=
  V.plainL k.args = true ∧ V.plain k.val = true ∧ ∀ e w, Calls P k.fn (V.denL e k.args).toArray w fun x w' => x = .returned (k.val.den e) ∧ Below w.heap.size w w'

theorem allSame_ok {v : V} : ∀ {l : List (V × St)}, allSame v l = true → ∀ u st, (u, st) ∈ l → u = v
  | [], _, u, st, h => by cases h
  | (u', s) :: l, h, u, st, hm => by
    simp only [allSame, Bool.and_eq_true] at h
    rcases List.mem_cons.1 hm with heq | hm
    · cases heq
      exact V.same_eq h.1
    · exact allSame_ok h.2 u st hm

theorem later0 (e : Env) : Later (env0 e.int e.val) e .nil .nil := ⟨rfl, rfl, fun _ h => h, fun i h => absurd rfl h, fun i h => absurd rfl h, fun i h => absurd rfl h, fun i h => absurd rfl h⟩

theorem kept_is {P : Program} {base : Ev} (hb : Snd P noGlob base) (hm : P.follows .mixedOrders = true) {lf n : Nat} : ∀ {l : List Kept}, keptOk P noGlob base lf n l = true → ∀ k ∈ l, k.is P
  | [], _, k, h => by cases h
  | k' :: l, h, k, hmem => by
    simp only [keptOk, Bool.and_eq_true] at h
    obtain ⟨⟨h1, h2⟩, h3, h4⟩ := h
    rcases List.mem_cons.1 hmem with heq | hmem
    · subst heq
      refine ⟨h1, h2, fun e w => ?_⟩
      cases hq : ev P noGlob base lf n [] k.fn k.args st00 with
      | none => rw [hq] at h3; cases h3
      | some ways =>
        rw [hq] at h3
        have hx := (callsIn_wide (n := 0)).1 (ev_ok hb hm n [] k.fn k.args st00 ways hq (env0 e.int e.val) (fun _ => False) w w rs0 (rep0 _ w) (fun g i h => (by cases h)) (holds0 _) (V.plainL_ok _ h1) (fun x w' => x = .returned (k.val.den e) ∧ Below w.heap.size w w') fun u st' hmem' e' w' haf hv => ?_)
        · rwa [← V.denL_later (later0 e) (V.plainL_ok _ h1)] at hx
        · cases allSame_ok h3 u st' hmem'
          refine ⟨?_, haf.rep.below⟩
          have a := V.den_later haf.later (v := k.val) (V.plain_ok _ h2)
          have b := V.den_later (later0 e) (v := k.val) (V.plain_ok _ h2)
          rw [a, b]
    · exact kept_is hb hm h4 k hmem

def findKept (f : Nat) (args : List V) : List Kept → Option V
  | [] => none
  | k :: l => match Nat.beq k.fn f with
    | true => match V.sameL k.args args with
      | true => some k.val
      | false => findKept f args l
    | false => findKept f args l
def keptEv (tab : List Kept) : Ev := fun _ f args st => match findKept f args tab with
  | some v => some [(v, st)]
  | none => none

theorem findKept_ok {P : Program} {f : Nat} {args : List V} {v : V} : ∀ {tab : List Kept}, (∀ k ∈ tab, k.is P) → findKept f args tab = some v → ∃ k : Kept, k.is P ∧ k.fn = f ∧ k.args = args ∧ k.val = v
  | [], _, h => by cases h
  | k :: l, ht, h => by
    simp only [findKept] at h
    have rest : findKept f args l = some v → ∃ k : Kept, k.is P ∧ k.fn = f ∧ k.args = args ∧ k.val = v :=
      fun h => findKept_ok (fun k hk => ht k (List.mem_cons_of_mem _ hk)) h
    split at h
    · rename_i h1
      split at h
      · rename_i h2
        cases h
        exact ⟨k, ht k (List.mem_cons_self ..), Nat.eq_of_beq_eq_true h1, V.sameL_eq h2, rfl⟩
      · exact rest h
    · exact rest h

theorem Rep.past {e : Env} {S : Nat → Prop} {w0 w w' : World} {h : T} (r : Rep e S w0 h w) (b : Below w.heap.size w w') : Rep e S w0 h w' :=
  ⟨b.os.trans r.os, b.tape.trans r.tape, b.output.trans r.output, Nat.le_trans r.size b.size,
   fun k hk hs => (b.block k (Nat.lt_of_lt_of_le hk r.size)).trans (r.keep k hk hs),
   fun i x hx => by
    by_cases ha : x.alive
    · rw [b.block _ (Blk.at_lt (r.blk i x hx) ha)]; exact r.blk i x hx
    · cases x with
      | dead => exact r.blk i .dead hx
      | cells l t => exact absurd trivial ha
      | opn l t z => exact absurd trivial ha
      | mp es c => exact absurd trivial ha
      | ro l => exact absurd trivial ha
      | dfr o => exact absurd trivial ha
      | row _ _ _ _ => exact absurd trivial ha
      | lp s p => exact absurd trivial ha,
   r.far, r.inj, r.okb, r.lim⟩

/-- What is kept may be answered without being read anew. -/
theorem keptEv_ok {P : Program} {glob : Nat → Option Nat} {tab : List Kept} (ht : ∀ k ∈ tab, k.is P) : Snd P glob (keptEv tab) := by
  intro rs f args st ways h e S w0 w _ r _ hh _ R hR
  simp only [keptEv] at h
  split at h
  · rename_i v hf
    cases h
    obtain ⟨k, hk, rfl, rfl, rfl⟩ := findKept_ok ht hf
    refine (callsIn_wide (n := 0)).2 ((hk.2.2 e w).mono fun x w' ⟨hx, hb⟩ => ?_)
    subst hx
    exact hR _ _ (List.mem_singleton.2 rfl) e w' ⟨.refl _ _, r.past hb, hh⟩ (V.plain_ok _ hk.2.1)
  · cases h
end
end Go.Proofs.Ytddacegeepgmmaa.Sx