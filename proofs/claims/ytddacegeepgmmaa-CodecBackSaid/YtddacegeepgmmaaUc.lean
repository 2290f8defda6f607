/- A row of numbers that came in: what memory holds there. -/
import Derived.Test.YtddacegeepgmmaaUb
import Derived.Test.YtddacegeepgmmaaSx
set_option linter.unusedVariables false
set_option linter.unusedSimpArgs false
namespace Go.Proofs.Ytddacegeepgmmaa.Sx
open Go Go.RowKit Go.ChangeShapes Go.WideShapes
noncomputable section

theorem kindsOk_len {P : Program} {t : TypeId} : ∀ {ks : List (Option IntKind)} {i : Nat}, kindsOk P t ks i = true → P.cellsOf t = i + ks.length
  | [], i, h => Nat.eq_of_beq_eq_true h
  | k :: ks, i, h => by
    simp only [kindsOk, Bool.and_eq_true] at h
    have := kindsOk_len h.2
    simp only [List.length_cons]; omega
theorem leaves_get : ∀ {ks : List (Option IntKind)} {l : List Value}, Leaves ks l → ∀ {j : Nat} {k : Option IntKind}, ks[j]? = some k → ∃ v, l[j]? = some v ∧ Leaf k v
  | [], _, _, j, k, h => by simp at h
  | q :: ks, l, hl, 0, k, h => by
    obtain ⟨v, r, rfl, h1, _⟩ := hl
    simp only [List.getElem?_cons_zero, Option.some.injEq] at h
    subst h
    exact ⟨v, rfl, h1⟩
  | q :: ks, l, hl, j + 1, k, h => by
    obtain ⟨v, r, rfl, _, h2⟩ := hl
    simp only [List.getElem?_cons_succ] at h ⊢
    exact leaves_get h2 h
theorem mapM_some_len {α β : Type} {f : α → Option β} : ∀ {l : List α} {m : List β}, l.mapM f = some m → m.length = l.length
  | [], m, h => by simp at h; subst h; rfl
  | a :: l, m, hm => by
    simp only [List.mapM_cons, Option.bind_eq_bind, Option.bind_eq_some_iff, Option.pure_def, Option.some.injEq] at hm
    obtain ⟨y, hy, r, hr, rfl⟩ := hm
    simp [mapM_some_len hr]
theorem mapM_some_get {α β : Type} {f : α → Option β} : ∀ {l : List α} {m : List β}, l.mapM f = some m → ∀ (i : Nat) (x : α), l[i]? = some x → ∃ y, f x = some y ∧ m[i]? = some y
  | [], _, _, i, x, h => by simp at h
  | a :: l, m, hm, i, x, h => by
    simp only [List.mapM_cons, Option.bind_eq_bind, Option.bind_eq_some_iff, Option.pure_def, Option.some.injEq] at hm
    obtain ⟨y, hy, r, hr, rfl⟩ := hm
    cases i with
    | zero => simp only [List.getElem?_cons_zero, Option.some.injEq] at h; subst h; exact ⟨y, hy, rfl⟩
    | succ i =>
      simp only [List.getElem?_cons_succ] at h ⊢
      exact mapM_some_get hr i x h
/-- A slice that came in, its elements being flat: nil, or cells of these kinds. -/
def IsRow (ks : List (Option IntKind)) (w : World) (a : Option Addr) (len cap : Nat) : Prop :=
  (a = none ∧ len = 0 ∧ cap = 0) ∨ ∃ a', a = some a' ∧ len ≤ 9223372036854775807 ∧ ∀ r, r < len → ∀ (j : Nat) (k : Option IntKind), ks[j]? = some k → ∃ v, w.cell? (a'.add (r * ks.length + j)) = some v ∧ Leaf k v
theorem open_rows {H : Type} {enc : TypeId × Value → H} {P : Program} {W : World} {base : Nat} {sp : Nat → Bool} {held : Bool} {t el : TypeId} (ht : P.underlying t = some (.slice el)) {ks : List (Option IntKind)} (hk : kindsOk P el ks 0 = true)
    {a : Option Addr} {len cap : Nat} {d : DataW H} {p : List MemPlace} (h : DataW.Trod enc P W base sp held t (.slice a len cap) d p) : IsRow ks W a len cap := by
  obtain ⟨fuel, hf⟩ := h
  have hz := kindsOk_len hk
  rw [Nat.zero_add] at hz
  rcases DataW.trod_slice ht hf with ⟨hcs, _⟩ | ⟨a', len', cap', elems, rest, n, _, hcs, _, hb, hl, hm, hlen, hel, _, _⟩
  · simp [Value.cells] at hcs
    exact .inl hcs
  · simp [Value.cells] at hcs
    obtain ⟨rfl, rfl, rfl⟩ := hcs
    refine .inr ⟨a', rfl, Nat.le_trans hl (Nat.le_trans hm (by decide)), fun r hr j k hjk => ?_⟩
    have he := hel r hr
    rw [List.getElem?_eq_getElem (by omega)] at he
    obtain ⟨cs, hcs, htr⟩ := Option.bind_eq_some_iff.1 he
    have hcl : cs.length = P.cellsOf el ∧ ∀ i, i < P.cellsOf el → ∃ v, cs[i]? = some v ∧ W.cell? ((a'.add (r * P.cellsOf el)).add i) = some v := by
      unfold World.cells? at hcs
      split at hcs
      · have hlen2 : cs.length = P.cellsOf el := by
          exact mapM_some_len hcs |>.trans (by simp)
        refine ⟨hlen2, fun i hi => ?_⟩
        obtain ⟨y, h1, h2⟩ := mapM_some_get hcs i i (by simp [hi])
        exact ⟨y, h2, h1⟩
      · cases hcs
    have hlv := leaves_of hcl.1 htr hk
    rw [List.drop_zero] at hlv
    obtain ⟨v, hv, hleaf⟩ := leaves_get hlv hjk
    have hj : j < P.cellsOf el := by
      have := (List.getElem?_eq_some_iff.1 hv).1
      omega
    obtain ⟨v2, h1, h2⟩ := hcl.2 j hj
    rw [hv] at h1
    cases h1
    refine ⟨v, ?_, hleaf⟩
    rw [add_add2, hz] at h2
    exact h2

def cellInt (w : World) (a : Addr) : Int := match w.cell? a with
  | some (.int _ n) => n
  | some (.bool b) => bI b
  | _ => 0
/-- What stands open, and the row's cells. -/
def rowEnv (i : Nat → Int) (a : Addr) (cap z : Nat) (w : World) : Env where
  int := fun x => match Nat.blt x 1000 with
    | true => i x
    | false => cellInt w (a.add ((x - 1000) / 128 * z + (x - 1000) % 128))
  val := fun _ => undef
  blk := fun _ => a.block
  cap := fun _ => cap
  lps := fun _ => default
  bas := fun _ => a
theorem kLo_kHi_wf {k : IntKind} {z : Int} (h : (Lit.int k z).wf = true) : kLo k ≤ z ∧ z ≤ kHi k := by
  have e1 : kLo k = k.min := by cases k <;> rfl
  have e2 : kHi k = k.max := by cases k <;> rfl
  simp only [Lit.wf, Bool.and_eq_true, decide_eq_true_eq] at h
  rw [e1, e2]; exact h
theorem rep_row {w : World} {a : Addr} {len cap lv : Nat} {ks : List (Option IntKind)} {i : Nat → Int} (hks : ks.length ≤ 128) (hpos : 0 < ks.length) (hlen0 : 0 < len) (hlv : lv < 1000) (hi : i lv = len) (hmax : len ≤ 9223372036854775807)
    (hrow : ∀ r, r < len → ∀ (j : Nat) (k : Option IntKind), ks[j]? = some k → ∃ v, w.cell? (a.add (r * ks.length + j)) = some v ∧ Leaf k v) :
    Rep (rowEnv i a cap ks.length w) (fun _ => False) w (hpOf [(0, .row 1000 128 ks (.var lv 0 9223372036854775807))]) w := by
  have hwl : (([(0, Blk.row 1000 128 ks (.var lv 0 9223372036854775807))] : List (Nat × Blk)).all fun (i, _) => Nat.ble i 1152921504606846976) = true := rfl
  have hget := hpOf_get hwl
  have only : ∀ j b, (hpOf [(0, .row 1000 128 ks (.var lv 0 9223372036854775807))]).get j = some b → j = 0 ∧ b = .row 1000 128 ks (.var lv 0 9223372036854775807) := by
    intro j b hb
    rw [hget] at hb
    simp only [findA_cons] at hb
    split at hb
    · rename_i h0; cases hb; exact ⟨beq_true h0, rfl⟩
    · cases hb
  have spot0 : a.spot = none ∧ ∃ cs t f, w.heap[a.block]? = some (.cells cs t f) := by
    obtain ⟨k, hk⟩ : ∃ k, ks[0]? = some k := ⟨ks[0], List.getElem?_eq_getElem hpos⟩
    obtain ⟨v, hv, _⟩ := hrow 0 hlen0 0 k hk
    have e0 : a.add (0 * ks.length + 0) = a := by unfold Addr.add; simp
    rw [e0] at hv
    unfold World.cell? at hv
    split at hv
    · rename_i cs t f hh
      split at hv
      · cases hv
      · rename_i hs
        exact ⟨by simpa using hs, cs, t, f, hh⟩
    · cases hv
  obtain ⟨hspot, cs, ty, fz, hheap⟩ := spot0
  have hint : (N.var lv 0 9223372036854775807).den (rowEnv i a cap ks.length w).int = (len : Int) := by
    have hb : Nat.blt lv 1000 = true := by rw [Nat.blt_eq]; exact hlv
    simp only [N.den, rowEnv, hb, hi]
    omega
  refine ⟨rfl, rfl, rfl, Nat.le_refl _, fun _ _ _ => rfl, fun j b hb => ?_, fun j b hb hrw => ?_, fun j j' b c hb hc _ _ _ => ?_, fun j b hb => ?_, fun j hj => ?_⟩
  · obtain ⟨rfl, rfl⟩ := only j b hb
    refine ⟨⟨_, hheap⟩, fun r q k hr hq => ?_⟩
    rw [hint] at hr
    obtain ⟨v, hv, hl⟩ := hrow r (by omega) q k hq
    have hq' : q < ks.length := (List.getElem?_eq_some_iff.1 hq).1
    refine ⟨cs, ty, fz, rfl, hspot, hheap, ?_⟩
    have hadd : a.add (r * ks.length + q) = ⟨a.block, a.off + (r * ks.length + q), none⟩ := by
      obtain ⟨x, y, z⟩ := a
      simp only at hspot
      subst hspot
      unfold Addr.add; split <;> simp_all
    have hv2 : cs[a.off + (r * ks.length + q)]? = some v := by
      rw [hadd] at hv
      unfold World.cell? at hv
      simpa [hheap] using hv
    have hx : (rowEnv i a cap ks.length w).int (1000 + q + 128 * r) = cellInt w (a.add (r * ks.length + q)) := by
      have hb : Nat.blt (1000 + q + 128 * r) 1000 = false := by
        cases hh : Nat.blt (1000 + q + 128 * r) 1000
        · rfl
        · rw [Nat.blt_eq] at hh; omega
      have e1 : (1000 + q + 128 * r - 1000) / 128 = r := by omega
      have e2 : (1000 + q + 128 * r - 1000) % 128 = q := by omega
      simp only [rowEnv, hb, e1, e2]
    show cs[a.off + (r * ks.length + q)]? = _
    rw [hv2, hx]
    unfold cellInt
    rw [hv]
    cases k with
    | some kd =>
      obtain ⟨z, rfl, hw⟩ := hl
      have := kLo_kHi_wf hw
      simp only
      congr 2
      omega
    | none =>
      obtain ⟨b, rfl⟩ := hl
      cases b <;> rfl
  · obtain ⟨rfl, rfl⟩ := only j b hb
    exact hrw.elim
  · rw [(only j b hb).1, (only j' c hc).1]
  · obtain ⟨rfl, rfl⟩ := only j b hb
    trivial
  · unfold T.has at hj
    cases hb : (hpOf [(0, Blk.row 1000 128 ks (.var lv 0 9223372036854775807))]).get j with
    | none => exact absurd hb hj
    | some b => rw [(only j b hb).1]; omega
/-- An empty row. -/
theorem rep_none (i : Nat → Int) (a : Addr) (cap z : Nat) (w : World) : Rep (rowEnv i a cap z w) (fun _ => False) w (hpOf [(0, .dead)]) w := by
  have hwl : (([(0, Blk.dead)] : List (Nat × Blk)).all fun (i, _) => Nat.ble i 1152921504606846976) = true := rfl
  have hget := hpOf_get hwl
  have only : ∀ j b, (hpOf [(0, .dead)]).get j = some b → j = 0 ∧ b = .dead := by
    intro j b hb
    rw [hget] at hb
    simp only [findA_cons] at hb
    split at hb
    · rename_i h0; cases hb; exact ⟨beq_true h0, rfl⟩
    · cases hb
  refine ⟨rfl, rfl, rfl, Nat.le_refl _, fun _ _ _ => rfl, fun j b hb => ?_, fun j b hb hrw => ?_, fun j j' b c hb hc _ _ _ => ?_, fun j b hb => ?_, fun j hj => ?_⟩
  · rw [(only j b hb).2]; trivial
  · rw [(only j b hb).2] at hrw; exact hrw.elim
  · rw [(only j b hb).1, (only j' c hc).1]
  · rw [(only j b hb).2]; trivial
  · unfold T.has at hj
    cases hb : (hpOf [(0, Blk.dead)]).get j with
    | none => exact absurd hb hj
    | some b => rw [(only j b hb).1]; omega
theorem noGlob_any {ng : Nat} : ∀ g i, noGlob g = some i → i < ng := fun g i h => by cases h
theorem gok_none {e : Env} {h : T} : GOk noGlob e h := fun g i hg => by cases hg
theorem pcEq {e : Nat → Int} {i : Nat} {lo hi z : Int} (h : max lo (min hi (e i)) = z) : Holds e [((.eq (.var i lo hi) (.lit z)), true)] := by
  intro c t hm
  rw [List.mem_singleton] at hm
  cases hm
  simp only [N.den, true_iff, Bool.false_eq_true, false_iff, bI_ne, ieq_iff, Classical.not_not, imin_eq, imax_eq]
  omega
theorem pcNe {e : Nat → Int} {i : Nat} {lo hi z : Int} (h : max lo (min hi (e i)) ≠ z) : Holds e [((.eq (.var i lo hi) (.lit z)), false)] := by
  intro c t hm
  rw [List.mem_singleton] at hm
  cases hm
  simp only [N.den, true_iff, Bool.false_eq_true, false_iff, bI_ne, ieq_iff, Classical.not_not, imin_eq, imax_eq]
  omega
end
end Go.Proofs.Ytddacegeepgmmaa.Sx