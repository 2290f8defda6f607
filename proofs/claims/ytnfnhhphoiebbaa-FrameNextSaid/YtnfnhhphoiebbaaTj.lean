/- Ways that are joined: what is so of the one that is made of them is so of each. -/
import Derived.Test.YtnfnhhphoiebbaaSz
set_option linter.unusedVariables false
set_option linter.unusedSimpArgs false
namespace Go.Proofs.Ytnfnhhphoiebbaa.Sx
open Go

theorem sub_zero (k : IntKind) (x : Int) (h : wrapF k x = x) : arF .sub k x 0 = x := by
  simp only [arF, Int.sub_zero, h]
theorem keepsZ_ok {f : BinOp} (hf : keepsZ f = true) (k : IntKind) (x : Int) (h : wrapF k x = x) : arF f k x 0 = x := by
  cases f <;> simp only [keepsZ, Bool.false_eq_true] at hf
  · exact add_zero k x h
  · exact sub_zero k x h
  · exact or_zero k x h
/-- One, or the other. -/
abbrev Or2 (e : Nat → Int) (c a b v : N) : Prop := (c.den e ≠ 0 → v.den e = a.den e) ∧ (c.den e = 0 → v.den e = b.den e)
theorem Or2.ite (e : Nat → Int) (c a b : N) : Or2 e c a b (.ite c a b) := by
  constructor
  · intro h; simp only [N.den]; rw [(ieq_false _ _).2 h]
  · intro h; simp only [N.den]; rw [(ieq_iff _ _).2 h]
theorem Or2.same {e : Nat → Int} {c a b : N} (h : N.same a b = true) : Or2 e c a b b := by
  have := N.same_eq h; subst this; exact ⟨fun _ => rfl, fun _ => rfl⟩
theorem isBit_ok {e : Nat → Int} {c : N} (h : isBit c = true) : 0 ≤ c.den e ∧ c.den e ≤ 1 := by
  unfold isBit at h
  split at h
  · rename_i lo hi hb
    rw [Bool.and_eq_true, ile_iff, ile_iff] at h
    have := c.bnd_ok e _ _ hb
    omega
  · cases h
theorem mkIteL_ok (e : Nat → Int) (c a b : N) : Or2 e c a b (mkIteL c a b) := by
  unfold mkIteL
  split
  · rename_i x y
    split
    · rename_i h
      rw [Bool.and_eq_true, Bool.and_eq_true, ieq_iff, ieq_iff] at h
      obtain ⟨h1, h2, h3⟩ := h
      have := isBit_ok (e := e) h3
      subst h1; subst h2
      exact ⟨fun h => by simp only [N.den]; omega, fun h => by simp only [N.den]; omega⟩
    · split
      · rename_i h
        rw [Bool.and_eq_true, ieq_iff, ieq_iff] at h
        obtain ⟨h1, h2⟩ := h
        subst h1; subst h2
        refine ⟨fun h => ?_, fun h => ?_⟩
        · rw [mkNot_den, (ieq_false _ _).2 h]; rfl
        · rw [mkNot_den, (ieq_iff _ _).2 h]; rfl
      · exact .ite e c _ _
  · exact .ite e c _ _
theorem mkIteR_ok (e : Nat → Int) (c a b : N) : Or2 e c a b (mkIteR c a b) := by
  unfold mkIteR
  split
  · rename_i g l u v
    split
    · rename_i h
      rw [Bool.and_eq_true, Bool.and_eq_true] at h
      obtain ⟨h1, h2, h3⟩ := h
      have h2 := N.same_eq h2; subst h2
      have hw := fitsIn_in e h3
      have := Or2.ite e c (.lit 0) v
      refine ⟨fun h => ?_, fun h => ?_⟩
      · have := this.1 h; simp only [N.den] at this ⊢; rw [this]; exact keepsZ_ok h1 l _ hw
      · have := this.2 h; simp only [N.den] at this ⊢; rw [this]
    · exact mkIteL_ok e c _ _
  · exact mkIteL_ok e c _ _
theorem mkIte_ok (e : Nat → Int) (c : N) : ∀ (a b : N), Or2 e c a b (mkIte c a b) := by
  intro a
  induction a with
  | ar f k x y ihx ihy =>
    intro b
    unfold mkIte
    split
    · rename_i h; exact .same h
    · split
      · rename_i h
        rw [Bool.and_eq_true, Bool.and_eq_true] at h
        obtain ⟨h1, h2, h3⟩ := h
        have h2 := N.same_eq h2; subst h2
        have hw := fitsIn_in e h3
        have := ihy (.lit 0)
        refine ⟨fun h => ?_, fun h => ?_⟩
        · have := this.1 h; simp only [N.den] at this ⊢; rw [this]
        · have := this.2 h; simp only [N.den] at this ⊢; rw [this]; exact keepsZ_ok h1 k _ hw
      · split
        · rename_i g l u v hx1 hx2
          split
          · rename_i h
            rw [Bool.and_eq_true, Bool.and_eq_true] at h
            obtain ⟨h1, h2, h3⟩ := h
            have h1 := binSame_eq h1; have h2 := kindSame_eq h2; have h3 := N.same_eq h3
            subst h1; subst h2; subst h3
            have := ihy v
            refine ⟨fun h => ?_, fun h => ?_⟩
            · have := this.1 h; simp only [N.den] at this ⊢; rw [this]
            · have := this.2 h; simp only [N.den] at this ⊢; rw [this]
          · exact mkIteR_ok e c _ _
        · exact mkIteL_ok e c _ _
  | conv k x ih =>
    intro b
    unfold mkIte
    split
    · rename_i h; exact .same h
    · split
      · rename_i l y hx1
        split
        · rename_i h
          have h := kindSame_eq h; subst h
          have := ih y
          refine ⟨fun h => ?_, fun h => ?_⟩
          · have := this.1 h; simp only [N.den] at this ⊢; rw [this]
          · have := this.2 h; simp only [N.den] at this ⊢; rw [this]
        · exact .ite e c _ _
      · exact mkIteR_ok e c _ _
  | _ =>
    intro b
    unfold mkIte
    split
    · rename_i h; have := Or2.same (e := e) (c := c) h; have h := N.same_eq h; exact ⟨fun _ => rfl, fun _ => by rw [h]⟩
    · exact mkIteR_ok e c _ _

/-! Values -/
abbrev Mg (e : Env) (c : N) (a b v : V) : Prop := ((c.den e.int ≠ 0 → v.den e = a.den e) ∧ (c.den e.int = 0 → v.den e = b.den e)) ∧ ∀ h, (V.ok h a → V.ok h v) ∧ (V.ok h b → V.ok h v)
abbrev MgL (e : Env) (c : N) (a b v : List V) : Prop := ((c.den e.int ≠ 0 → V.denL e v = V.denL e a) ∧ (c.den e.int = 0 → V.denL e v = V.denL e b)) ∧ ∀ h, (V.okL h a → V.okL h v) ∧ (V.okL h b → V.okL h v)
theorem sameC {a b v : V} (h : sameV a b = some v) : v = a ∧ v = b := by
  unfold sameV at h
  split at h
  · rename_i hs; cases h; exact ⟨rfl, V.same_eq hs⟩
  · cases h
theorem Mg.same {e : Env} {c : N} {a b v : V} (h : v = a ∧ v = b) : Mg e c a b v := by
  obtain ⟨h1, h2⟩ := h
  subst h1
  subst h2
  exact ⟨⟨fun _ => rfl, fun _ => rfl⟩, fun _ => ⟨id, id⟩⟩
mutual
theorem mergeV_ok (e : Env) (c : N) : ∀ (a b : V) {v : V}, mergeV c a b = some v → Mg e c a b v
  | .n k x, b, v, h => by
    cases b with
    | n l y =>
      simp only [mergeV] at h
      split at h
      · rename_i hk
        have hk := kindSame_eq hk
        subst hk
        cases h
        have := mkIte_ok e.int c x y
        exact ⟨⟨fun h => by simp only [V.den, this.1 h], fun h => by simp only [V.den, this.2 h]⟩, fun _ => ⟨fun _ => trivial, fun _ => trivial⟩⟩
      · cases h
    | _ => exact Mg.same (sameC (by simpa only [mergeV] using h))
  | .b x, b, v, h => by
    cases b with
    | b y =>
      simp only [mergeV, Option.some.injEq] at h
      subst h
      have := mkIte_ok e.int c x y
      exact ⟨⟨fun h => by simp only [V.den, this.1 h], fun h => by simp only [V.den, this.2 h]⟩, fun _ => ⟨fun _ => trivial, fun _ => trivial⟩⟩
    | _ => exact Mg.same (sameC (by simpa only [mergeV] using h))
  | .agg l, b, v, h => by
    cases b with
    | agg m =>
      simp only [mergeV] at h
      split at h
      · rename_i r hr
        cases h
        have := mergeL_ok e c l m hr
        exact ⟨⟨fun h => by simp only [V.den, this.1.1 h], fun h => by simp only [V.den, this.1.2 h]⟩, fun t => ⟨(this.2 t).1, (this.2 t).2⟩⟩
      · cases h
    | _ => exact Mg.same (sameC (by simpa only [mergeV] using h))
  | .tup l, b, v, h => by
    cases b with
    | tup m =>
      simp only [mergeV] at h
      split at h
      · rename_i r hr
        cases h
        have := mergeL_ok e c l m hr
        exact ⟨⟨fun h => by simp only [V.den, this.1.1 h], fun h => by simp only [V.den, this.1.2 h]⟩, fun t => ⟨(this.2 t).1, (this.2 t).2⟩⟩
      · cases h
    | _ => exact Mg.same (sameC (by simpa only [mergeV] using h))
  | .und, b, v, h => Mg.same (sameC (by cases b <;> simpa only [mergeV] using h))
  | .s _, b, v, h => Mg.same (sameC (by cases b <;> simpa only [mergeV] using h))
  | .ptr _ _, b, v, h => Mg.same (sameC (by cases b <;> simpa only [mergeV] using h))
  | .nilp, b, v, h => Mg.same (sameC (by cases b <;> simpa only [mergeV] using h))
  | .slc _ _ _ _, b, v, h => Mg.same (sameC (by cases b <;> simpa only [mergeV] using h))
  | .slo _ _ _ _, b, v, h => Mg.same (sameC (by cases b <;> simpa only [mergeV] using h))
  | .nils, b, v, h => Mg.same (sameC (by cases b <;> simpa only [mergeV] using h))
  | .map _, b, v, h => Mg.same (sameC (by cases b <;> simpa only [mergeV] using h))
  | .nilm, b, v, h => Mg.same (sameC (by cases b <;> simpa only [mergeV] using h))
  | .fn _ _ _, b, v, h => Mg.same (sameC (by cases b <;> simpa only [mergeV] using h))
  | .nilf, b, v, h => Mg.same (sameC (by cases b <;> simpa only [mergeV] using h))
  | .ifc _ _, b, v, h => Mg.same (sameC (by cases b <;> simpa only [mergeV] using h))
  | .nili, b, v, h => Mg.same (sameC (by cases b <;> simpa only [mergeV] using h))
  | .opq _, b, v, h => Mg.same (sameC (by cases b <;> simpa only [mergeV] using h))
  | .yld _, b, v, h => Mg.same (sameC (by cases b <;> simpa only [mergeV] using h))
  | .any _, b, v, h => Mg.same (sameC (by cases b <;> simpa only [mergeV] using h))
  | .sls _ _, b, v, h => Mg.same (sameC (by cases b <;> simpa only [mergeV] using h))
  | .pts _ _ _ _, b, v, h => Mg.same (sameC (by cases b <;> simpa only [mergeV] using h))
  | .alt _ _ _, b, v, h => Mg.same (sameC (by cases b <;> simpa only [mergeV] using h))
theorem mergeL_ok (e : Env) (c : N) : ∀ (a b : List V) {v : List V}, mergeL c a b = some v → MgL e c a b v
  | [], b, v, h => by
    cases b with
    | nil => simp only [mergeL, Option.some.injEq] at h; subst h; exact ⟨⟨fun _ => rfl, fun _ => rfl⟩, fun _ => ⟨id, id⟩⟩
    | cons _ _ => simp only [mergeL] at h; cases h
  | x :: l, b, v, h => by
    cases b with
    | nil => simp only [mergeL] at h; cases h
    | cons y m =>
      simp only [mergeL] at h
      split at h
      · cases h
      · rename_i r hr
        split at h
        · rename_i u hu
          cases h
          have h1 := mergeV_ok e c x y hu
          have h2 := mergeL_ok e c l m hr
          exact ⟨⟨fun h => by simp only [V.denL, h1.1.1 h, h2.1.1 h], fun h => by simp only [V.denL, h1.1.2 h, h2.1.2 h]⟩,
            fun t => ⟨fun hx => ⟨(h1.2 t).1 hx.1, (h2.2 t).1 hx.2⟩, fun hx => ⟨(h1.2 t).2 hx.1, (h2.2 t).2 hx.2⟩⟩⟩
        · cases h
end
theorem hasT_ok {h : T} {i : Nat} (hh : hasT h i = true) : h.has i := by
  unfold hasT at hh
  split at hh
  · rename_i b hb; unfold T.has; rw [hb]; simp
  · cases hh
mutual
theorem okB_ok {h : T} : ∀ {v : V}, okB h v = true → V.ok h v
  | .und, _ => trivial
  | .n _ _, _ => trivial
  | .b _, _ => trivial
  | .s _, _ => trivial
  | .ptr _ _, hv => hasT_ok hv
  | .nilp, _ => trivial
  | .slc _ _ _ _, hv => hasT_ok hv
  | .slo _ _ _ _, hv => hasT_ok hv
  | .nils, _ => trivial
  | .map _, hv => hasT_ok hv
  | .nilm, _ => trivial
  | .fn _ x y, hv => by simp only [okB, Bool.and_eq_true] at hv; exact ⟨okBL_ok hv.1, okBL_ok hv.2⟩
  | .nilf, _ => trivial
  | .ifc _ v, hv => okB_ok (v := v) hv
  | .nili, _ => trivial
  | .agg l, hv => okBL_ok (l := l) hv
  | .tup l, hv => okBL_ok (l := l) hv
  | .opq _, _ => trivial
  | .yld _, hv => hasT_ok hv
  | .any _, _ => trivial
  | .sls _ _, hv => hasT_ok hv
  | .pts _ _ _ _, hv => hasT_ok hv
  | .alt _ x y, hv => by simp only [okB, Bool.and_eq_true] at hv; exact ⟨okB_ok hv.1, okB_ok hv.2⟩
theorem okBL_ok {h : T} : ∀ {l : List V}, okBL h l = true → V.okL h l
  | [], _ => trivial
  | v :: l, hv => by simp only [okBL, Bool.and_eq_true] at hv; exact ⟨okB_ok hv.1, okBL_ok hv.2⟩
end
theorem mergeTm_ok (e : Env) {alt : Bool} {c : N} {h : T} : ∀ (a b : List V) {v : List V}, mergeTm alt c h a b = some v →
    ((c.den e.int ≠ 0 → V.denL e v = V.denL e a) ∧ (c.den e.int = 0 → V.denL e v = V.denL e b)) ∧ (V.okL h a ∨ V.okL h b → V.okL h v)
  | [], b, v, hq => by
    cases b with
    | nil => simp only [mergeTm, Option.some.injEq] at hq; subst hq; exact ⟨⟨fun _ => rfl, fun _ => rfl⟩, fun _ => trivial⟩
    | cons _ _ => simp only [mergeTm] at hq; cases hq
  | x :: l, b, v, hq => by
    cases b with
    | nil => simp only [mergeTm] at hq; cases hq
    | cons y m =>
      simp only [mergeTm] at hq
      split at hq
      · cases hq
      · rename_i r hr
        have h2 := mergeTm_ok e l m hr
        split at hq
        · rename_i u hu
          cases hq
          have h1 := mergeV_ok e c x y hu
          refine ⟨⟨fun h => by simp only [V.denL, h1.1.1 h, h2.1.1 h], fun h => by simp only [V.denL, h1.1.2 h, h2.1.2 h]⟩, fun hx => ?_⟩
          rcases hx with hx | hx
          · exact ⟨(h1.2 h).1 hx.1, h2.2 (.inl hx.2)⟩
          · exact ⟨(h1.2 h).2 hx.1, h2.2 (.inr hx.2)⟩
        · split at hq
          · rename_i hk
            cases hq
            rw [Bool.and_eq_true, Bool.and_eq_true] at hk
            refine ⟨⟨fun h => ?_, fun h => ?_⟩, fun hx => ⟨⟨okB_ok hk.2.1, okB_ok hk.2.2⟩, h2.2 (hx.imp (·.2) (·.2))⟩⟩
            · simp only [V.denL, V.den, h2.1.1 h]; rw [(ieq_false _ _).2 h]
            · simp only [V.denL, V.den, h2.1.2 h]; rw [(ieq_iff _ _).2 h]
          · cases hq

/-! Blocks, memory -/
structure MgB (e : Env) (c : N) (x y z : Blk) : Prop where
  yes : c.den e.int ≠ 0 → ∀ i o, x.at e i o → z.at e i o
  nay : c.den e.int = 0 → ∀ i o, y.at e i o → z.at e i o
  okx : ∀ h, x.ok h → z.ok h
  oky : ∀ h, y.ok h → z.ok h
  rw : z.rw → x.rw ∧ y.rw
  alive : z.alive → x.alive ∧ y.alive
theorem MgB.same {e : Env} {c : N} {x y z : Blk} (h : sameK x y = some z) : MgB e c x y z := by
  unfold sameK at h
  split at h
  · rename_i hs
    have hs := Blk.same_eq hs
    subst hs
    cases h
    exact ⟨fun _ _ _ h => h, fun _ _ _ h => h, fun _ h => h, fun _ h => h, fun h => ⟨h, h⟩, fun h => ⟨h, h⟩⟩
  · cases h
theorem mergeB_ok (e : Env) {c : N} {x y z : Blk} (h : mergeB c x y = some z) : MgB e c x y z := by
  cases x with
  | cells l t =>
    cases y with
    | cells m u =>
      simp only [mergeB] at h
      split at h
      · rename_i ht
        have ht := beq_true ht
        subst ht
        split at h
        · rename_i r hr
          cases h
          have := mergeL_ok e c l m hr
          exact ⟨fun hc i o hx => by simp only [Blk.at] at hx ⊢; rw [this.1.1 hc]; exact hx, fun hc i o hx => by simp only [Blk.at] at hx ⊢; rw [this.1.2 hc]; exact hx,
            fun t => (this.2 t).1, fun t => (this.2 t).2, fun _ => ⟨trivial, trivial⟩, fun _ => ⟨trivial, trivial⟩⟩
        · cases h
      · cases h
    | _ => exact .same (by simpa only [mergeB] using h)
  | opn l t s =>
    cases y with
    | opn m u w =>
      simp only [mergeB] at h
      split at h
      · rename_i ht
        rw [Bool.and_eq_true] at ht
        have h1 := beq_true ht.1
        have h2 := beq_true ht.2
        subst h1; subst h2
        split at h
        · rename_i r hr
          cases h
          have := mergeL_ok e c l m hr
          have len : ∀ {l m : List V}, V.denL e l = V.denL e m → l.length = m.length := fun {l m} hq => by rw [← denL_length e l, hq, denL_length]
          refine ⟨fun hc i o hx => ?_, fun hc i o hx => ?_, fun t => (this.2 t).1, fun t => (this.2 t).2, fun _ => ⟨trivial, trivial⟩, fun _ => ⟨trivial, trivial⟩⟩
          · simp only [Blk.at] at hx ⊢; rw [this.1.1 hc, len (this.1.1 hc)]; exact hx
          · simp only [Blk.at] at hx ⊢; rw [this.1.2 hc, len (this.1.2 hc)]; exact hx
        · cases h
      · cases h
    | _ => exact .same (by simpa only [mergeB] using h)
  | mp _ _ => exact .same (by cases y <;> simpa only [mergeB] using h)
  | ro _ => exact .same (by cases y <;> simpa only [mergeB] using h)
  | dead => exact .same (by cases y <;> simpa only [mergeB] using h)
  | dfr _ => exact .same (by cases y <;> simpa only [mergeB] using h)
  | row _ _ _ _ => exact .same (by cases y <;> simpa only [mergeB] using h)
  | lp _ _ => exact .same (by cases y <;> simpa only [mergeB] using h)
theorem T.get_parts (t : T) (i : Nat) : t.get i = match Nat.beq i 0 with | true => t.mid | false => match Nat.beq (i % 2) 1 with | true => t.lft.get (i / 2) | false => t.rgt.get (i / 2 - 1) := by
  cases t with
  | nil =>
    simp only [T.get, T.mid, T.lft, T.rgt]
    split <;> first | rfl | (split <;> rfl)
  | nd l v r => rfl
theorem mergeT_get {c : N} : ∀ (n : Nat) (a b : T) {h : T}, mergeT c n a b = some h → ∀ i, mergeO c (a.get i) (b.get i) = some (h.get i) ∧ (h.get i ≠ none → i + 2 ≤ 2 ^ (n + 1))
  | 0, a, b, h, hq => by cases hq
  | n + 1, a, b, h, hq => by
    simp only [mergeT] at hq
    split at hq
    · rename_i hn
      cases a <;> cases b <;> simp only [bothNil, Bool.false_eq_true] at hn
      cases hq
      intro i
      exact ⟨rfl, fun hx => (hx rfl).elim⟩
    · split at hq
      · cases hq
      · rename_i z hz
        split at hq
        · cases hq
        · rename_i x hx
          split at hq
          · cases hq
          · rename_i y hy
            cases hq
            intro i
            have hl := mergeT_get n a.lft b.lft hx
            have hr := mergeT_get n a.rgt b.rgt hy
            rw [T.get_parts a, T.get_parts b, T.get_parts (.nd x z y)]
            cases h0 : Nat.beq i 0
            · cases h1 : Nat.beq (i % 2) 1
              · refine ⟨(hr (i / 2 - 1)).1, fun hg => ?_⟩
                have := (hr (i / 2 - 1)).2 hg
                have := beq_false h0
                have := beq_false h1
                rw [Nat.pow_succ]; omega
              · refine ⟨(hl (i / 2)).1, fun hg => ?_⟩
                have := (hl (i / 2)).2 hg
                have := beq_true h1
                rw [Nat.pow_succ]; omega
            · have := beq_true h0
              subst this
              refine ⟨hz, fun _ => ?_⟩
              have : 2 ^ 1 ≤ 2 ^ (n + 1 + 1) := Nat.pow_le_pow_right (by omega) (by omega)
              simpa using this
theorem mergeO_ok (e : Env) {c : N} {a b d : Option Blk} (h : mergeO c a b = some d) : (a ≠ none → d ≠ none) ∧ (b ≠ none → d ≠ none) ∧ ∀ z, d = some z → z = .dead ∨ ∃ x y, a = some x ∧ b = some y ∧ MgB e c x y z := by
  cases a with
  | none =>
    cases b with
    | none => simp only [mergeO, Option.some.injEq] at h; subst h; exact ⟨fun h => (h rfl).elim, fun h => (h rfl).elim, fun z hz => by cases hz⟩
    | some y => simp only [mergeO, Option.some.injEq] at h; subst h; exact ⟨fun _ => by simp, fun _ => by simp, fun z hz => by cases hz; exact .inl rfl⟩
  | some x =>
    cases b with
    | none => simp only [mergeO, Option.some.injEq] at h; subst h; exact ⟨fun _ => by simp, fun _ => by simp, fun z hz => by cases hz; exact .inl rfl⟩
    | some y =>
      simp only [mergeO] at h
      split at h
      · rename_i z hz
        cases h
        exact ⟨fun _ => by simp, fun _ => by simp, fun z' hz' => by cases hz'; exact .inr ⟨x, y, rfl, rfl, mergeB_ok e hz⟩⟩
      · cases h
/-- Memory that tells less. -/
structure Down (e : Env) (h1 h : T) : Prop where
  has : ∀ i, h1.has i → h.has i
  blk : ∀ i z, h.get i = some z → (z = .dead ∧ i ≤ 1152921504606846976) ∨ ∃ x, h1.get i = some x ∧ (∀ o, x.at e i o → z.at e i o) ∧ (z.rw → x.rw) ∧ (z.alive → x.alive) ∧ (x.ok h1 → z.ok h1)
theorem Down.rep {e : Env} {S : Nat → Prop} {w0 w : World} {h1 h : T} (d : Down e h1 h) (r : Rep e S w0 h1 w) : Rep e S w0 h w := by
  refine ⟨r.os, r.tape, r.output, r.size, r.keep, fun i z hz => ?_, fun i z hz hrw => ?_, fun i j b c hi hj ha hc he => ?_, fun i z hz => ?_, fun i hi => ?_⟩
  · rcases d.blk i z hz with ⟨rfl, _⟩ | ⟨x, hx, h1, _⟩
    · trivial
    · exact h1 _ (r.blk i x hx)
  · rcases d.blk i z hz with ⟨rfl, _⟩ | ⟨x, hx, _, h2, _⟩
    · exact hrw.elim
    · exact r.far i x hx (h2 hrw)
  · rcases d.blk i b hi with ⟨rfl, _⟩ | ⟨x, hx, _, _, h3, _⟩
    · exact ha.elim
    · rcases d.blk j c hj with ⟨rfl, _⟩ | ⟨y, hy, _, _, h4, _⟩
      · exact hc.elim
      · exact r.inj i j x y hx hy (h3 ha) (h4 hc) he
  · rcases d.blk i z hz with ⟨rfl, _⟩ | ⟨x, hx, _, _, _, h4⟩
    · trivial
    · exact Blk.ok_later d.has (h4 (r.okb i x hx))
  · unfold T.has at hi
    cases hz : h.get i with
    | none => exact (hi hz).elim
    | some z =>
      rcases d.blk i z hz with ⟨_, hl⟩ | ⟨x, hx, _⟩
      · exact hl
      · exact r.lim i (by unfold T.has; rw [hx]; simp)
theorem mergeT_down (e : Env) {c : N} {a b h : T} (hq : mergeT c 50 a b = some h) : (c.den e.int ≠ 0 → Down e a h) ∧ (c.den e.int = 0 → Down e b h) := by
  have hg := mergeT_get 50 a b hq
  have lim : ∀ i, h.get i ≠ none → i ≤ 1152921504606846976 := fun i hi => by have := (hg i).2 hi; omega
  constructor
  · intro hc
    refine ⟨fun i hi => (mergeO_ok e (hg i).1).1 hi, fun i z hz => ?_⟩
    rcases (mergeO_ok e (hg i).1).2.2 z hz with rfl | ⟨x, y, hx, hy, m⟩
    · exact .inl ⟨rfl, lim i (by rw [hz]; simp)⟩
    · exact .inr ⟨x, hx, fun o => m.yes hc i o, fun h => (m.rw h).1, fun h => (m.alive h).1, m.okx _⟩
  · intro hc
    refine ⟨fun i hi => (mergeO_ok e (hg i).1).2.1 hi, fun i z hz => ?_⟩
    rcases (mergeO_ok e (hg i).1).2.2 z hz with rfl | ⟨x, y, hx, hy, m⟩
    · exact .inl ⟨rfl, lim i (by rw [hz]; simp)⟩
    · exact .inr ⟨y, hy, fun o => m.nay hc i o, fun h => (m.rw h).2, fun h => (m.alive h).2, m.oky _⟩

/-! Ways -/
/-- What is so behind this one, is so behind that one. -/
def Cov (a m : Fr × St) : Prop := ∀ (e0 e : Env) (S : Nat → Prop) (w0 w : World) (st0 : St) (act : Act), After e0 S w0 st0 e a.2 w → Fm e a.2.hp a.1 act → After e0 S w0 st0 e m.2 w ∧ Fm e m.2.hp m.1 act
theorem Cov.refl (a : Fr × St) : Cov a a := fun _ _ _ _ _ _ _ h f => ⟨h, f⟩
theorem Cov.trans {a b c : Fr × St} (h : Cov a b) (k : Cov b c) : Cov a c := fun e0 e S w0 w st0 act h1 f => let ⟨h2, f2⟩ := h e0 e S w0 w st0 act h1 f; k e0 e S w0 w st0 act h2 f2
theorem cov_of {a : Fr × St} {tm : List V} {n : Nat} {h : T} {pc : Pc} (hd : ∀ e : Env, Holds e.int a.2.pc → Down e a.2.hp h ∧ Holds e.int pc ∧ V.denL e tm = V.denL e a.1.1) (hok : Env → V.okL h a.1.1 → V.okL h tm) : Cov a ((tm, a.1.2), { nxt := n, hp := h, pc := pc }) := by
  intro e0 e S w0 w st0 act hx f
  obtain ⟨d, hp, ht⟩ := hd e hx.holds
  refine ⟨⟨⟨hx.later.int, hx.later.val, fun i hi => d.has i (hx.later.has i hi), hx.later.blk, hx.later.cap, hx.later.lps, hx.later.bas⟩, d.rep hx.rep, hp⟩, ⟨⟨?_, ?_⟩, f.df, fun q hq => ⟨V.ok_later d.has (f.dok q hq).1, V.okL_later d.has (f.dok q hq).2⟩⟩⟩
  · rw [f.tm.tmps, ht]
  · exact hok e (V.okL_later d.has f.tm.ok)

theorem revP_mem : ∀ {l acc : Pc} {x : N × Bool}, x ∈ revP acc l ↔ x ∈ acc ∨ x ∈ l
  | [], acc, x => by simp [revP]
  | y :: l, acc, x => by
    simp only [revP]
    rw [revP_mem (l := l)]
    simp only [List.mem_cons]
    constructor
    · rintro ((h | h) | h)
      · exact .inr (.inl h)
      · exact .inl h
      · exact .inr (.inr h)
    · rintro (h | h | h)
      · exact .inl (.inr h)
      · exact .inl (.inl h)
      · exact .inr h
theorem walkP_ok : ∀ (p q acc : Pc) {base r s : Pc}, walkP acc p q = (base, r, s) → (∀ x ∈ base, x ∈ acc ∨ (x ∈ p ∧ x ∈ q)) ∧ (∀ x ∈ r, x ∈ p) ∧ (∀ x ∈ s, x ∈ q)
  | [], q, acc, base, r, s, h => by
    simp only [walkP] at h
    cases h
    exact ⟨fun x hx => .inl hx, fun x hx => hx, fun x hx => hx⟩
  | (x, t) :: p, [], acc, base, r, s, h => by
    simp only [walkP] at h
    cases h
    exact ⟨fun x hx => .inl hx, fun x hx => hx, fun x hx => hx⟩
  | (x, t) :: p, (y, u) :: q, acc, base, r, s, h => by
    simp only [walkP] at h
    split at h
    · rename_i hs
      rw [Bool.and_eq_true] at hs
      have h1 := N.same_eq hs.1
      have h2 := bSame_eq hs.2
      subst h1; subst h2
      obtain ⟨k1, k2, k3⟩ := walkP_ok p q _ h
      refine ⟨fun z hz => ?_, fun z hz => List.mem_cons_of_mem _ (k2 z hz), fun z hz => List.mem_cons_of_mem _ (k3 z hz)⟩
      rcases k1 z hz with hq | ⟨h1, h2⟩
      · rcases List.mem_cons.1 hq with rfl | hq
        · exact .inr ⟨by simp, by simp⟩
        · exact .inl hq
      · exact .inr ⟨List.mem_cons_of_mem _ h1, List.mem_cons_of_mem _ h2⟩
    · cases h
      exact ⟨fun x hx => .inl hx, fun x hx => hx, fun x hx => hx⟩
theorem Holds.sub {e : Nat → Int} {p q : Pc} (h : Holds e p) (hs : ∀ x ∈ q, x ∈ p) : Holds e q := fun c t hm => h c t (hs _ hm)
theorem partsC_ok {p q : Pc} {c : N} {t : Bool} (h : partsC p q c = some t) (e : Nat → Int) : (Holds e p → (t = true ↔ c.den e ≠ 0)) ∧ (Holds e q → (t = true ↔ c.den e = 0)) := by
  unfold partsC at h
  split at h
  · rename_i hp
    split at h
    · rename_i hq
      cases h
      exact ⟨fun k => dec_ok k hp, fun k => by have := dec_ok k hq; simpa using this⟩
    · cases h
  · rename_i hp
    split at h
    · rename_i hq
      cases h
      exact ⟨fun k => dec_ok k hp, fun k => by have := dec_ok k hq; simpa using this⟩
    · cases h
  · cases h
theorem pickC_ok {p q r s : Pc} {c : N} {t : Bool} (h : pickC p q r s = some (c, t)) (e : Nat → Int) : (Holds e p → (t = true ↔ c.den e ≠ 0)) ∧ (Holds e q → (t = true ↔ c.den e = 0)) := by
  unfold pickC at h
  split at h
  · split at h
    · rename_i hp; cases h; exact partsC_ok hp e
    · split at h
      · rename_i hp; cases h; exact partsC_ok hp e
      · cases h
  · cases h
theorem conjP_ok {e : Nat → Int} : ∀ {l : Pc}, Holds e l → (conjP l).den e ≠ 0
  | [], _ => by simp [conjP, N.den]
  | (x, t) :: l, h => by
    have hl := conjP_ok (l := l) fun c t hm => h c t (List.mem_cons_of_mem _ hm)
    have hx := h x t (by simp)
    have hx' : (litP x t).den e ≠ 0 := by
      cases t with
      | true => exact hx.1 rfl
      | false =>
        have : x.den e = 0 := by
          rcases Decidable.em (x.den e = 0) with h | h
          · exact h
          · exact absurd (hx.2 h) (by simp)
        show (mkNot x).den e ≠ 0
        rw [mkNot_den, (ieq_iff _ _).2 this]
        simp [bI]
    simp only [conjP]
    split
    · exact hx'
    · simp only [N.den]
      rw [(ieq_false _ _).2 hx']
      exact hl
theorem butC_mem {c : N} : ∀ {l : Pc} {x : N × Bool}, x ∈ butC c l → x ∈ l
  | [], x, h => h
  | (y, t) :: l, x, h => by
    simp only [butC] at h
    split at h
    · exact List.mem_cons_of_mem _ h
    · exact h
theorem glue_ok {alt : Bool} {c : N} {a b m : Fr × St} {pc : Pc} (h : glue alt c a b pc = some m) (hd : a.1.2 = b.1.2) (ha : ∀ e, Holds e a.2.pc → c.den e ≠ 0 ∧ Holds e pc) (hb : ∀ e, Holds e b.2.pc → c.den e = 0 ∧ Holds e pc) : Cov a m ∧ Cov b m := by
  unfold glue at h
  split at h
  · cases h
  · rename_i t ht
    split at h
    · cases h
    · rename_i tm htm
      cases h
      constructor
      · exact cov_of (fun e hh => ⟨(mergeT_down e ht).1 (ha _ hh).1, (ha _ hh).2, (mergeTm_ok e _ _ htm).1.1 (ha _ hh).1⟩) (fun e hk => (mergeTm_ok e _ _ htm).2 (.inl hk))
      · rw [hd]
        exact cov_of (fun e hh => ⟨(mergeT_down e ht).2 (hb _ hh).1, (hb _ hh).2, (mergeTm_ok e _ _ htm).1.2 (hb _ hh).1⟩) (fun e hk => (mergeTm_ok e _ _ htm).2 (.inr hk))
theorem glueX_ok {exact alt : Bool} {c : N} {a b m : Fr × St} {base p q : Pc} (h : glueX exact alt c a b base p q = some m) (hd : a.1.2 = b.1.2) (ha : ∀ e, Holds e a.2.pc → c.den e ≠ 0) (hb : ∀ e, Holds e b.2.pc → c.den e = 0)
    (h1 : ∀ x ∈ base, x ∈ a.2.pc ∧ x ∈ b.2.pc) (h2 : ∀ x ∈ p, x ∈ a.2.pc) (h3 : ∀ x ∈ q, x ∈ b.2.pc) : Cov a m ∧ Cov b m := by
  have ba : ∀ e, Holds e a.2.pc → Holds e base := fun e hh => hh.sub fun x hx => (h1 x hx).1
  have bb : ∀ e, Holds e b.2.pc → Holds e base := fun e hh => hh.sub fun x hx => (h1 x hx).2
  unfold glueX at h
  split at h
  · exact glue_ok h hd (fun e hh => ⟨ha e hh, ba e hh⟩) (fun e hh => ⟨hb e hh, bb e hh⟩)
  · split at h
    · cases h
    · refine glue_ok h hd (fun e hh => ⟨ha e hh, (ba e hh).cons ?_⟩) (fun e hh => ⟨hb e hh, (bb e hh).cons ?_⟩)
      · have := conjP_ok (l := butC c p) (hh.sub fun x hx => h2 x (butC_mem hx))
        simp only [true_iff, N.den]
        rw [(ieq_false _ _).2 (ha e hh)]
        exact this
      · have := conjP_ok (l := butC c q) (hh.sub fun x hx => h3 x (butC_mem hx))
        simp only [true_iff, N.den]
        rw [(ieq_iff _ _).2 (hb e hh)]
        exact this
theorem merge2_ok {exact alt : Bool} {a b m : Fr × St} (h : merge2 exact alt a b = some m) : Cov a m ∧ Cov b m := by
  unfold merge2 at h
  split at h
  · cases h
  · rename_i hd
    have hd := defersSame_eq hd
    split at h
    rename_i base p q hw
    obtain ⟨w1, w2, w3⟩ := walkP_ok _ _ _ hw
    have w1 : ∀ x ∈ base, x ∈ a.2.pc ∧ x ∈ b.2.pc := fun x hx => by
      rcases w1 x hx with hq | ⟨h1, h2⟩
      · cases hq
      · exact ⟨(revP_mem.1 h1).resolve_left (by simp), (revP_mem.1 h2).resolve_left (by simp)⟩
    have w2 : ∀ x ∈ p, x ∈ a.2.pc := fun x hx => (revP_mem.1 (w2 x hx)).resolve_left (by simp)
    have w3 : ∀ x ∈ q, x ∈ b.2.pc := fun x hx => (revP_mem.1 (w3 x hx)).resolve_left (by simp)
    split at h
    · cases h
    · rename_i c hc
      have := pickC_ok hc
      exact glueX_ok h hd (fun e hh => ((this e).1 hh).1 rfl) (fun e hh => ((this e).2 hh).1 rfl) w1 w2 w3
    · rename_i c hc
      have := pickC_ok hc
      have h1 : ∀ e, Holds e a.2.pc → c.den e = 0 := fun e hh => by
        have := (this e).1 hh
        rcases Decidable.em (c.den e = 0) with h | h
        · exact h
        · exact absurd (this.2 h) (by simp)
      have h2 : ∀ e, Holds e b.2.pc → c.den e ≠ 0 := fun e hh hz => absurd (((this e).2 hh).2 hz) (by simp)
      exact (glueX_ok h hd.symm h2 h1 (fun x hx => ⟨(w1 x hx).2, (w1 x hx).1⟩) w3 w2).symm
theorem exitSame_eq {x y : Exit} (h : exitSame x y = true) : x = y := by
  cases x <;> cases y <;> simp only [exitSame, Bool.false_eq_true] at h <;> first | rfl | (rw [beq_true h])
/-- Each of these is covered by one of those. -/
def CovL (l m : Ways) : Prop := ∀ x p, (x, p) ∈ l → ∃ q, (x, q) ∈ m ∧ Cov p q
theorem CovL.refl (l : Ways) : CovL l l := fun x p h => ⟨p, h, .refl p⟩
theorem CovL.trans {l m k : Ways} (h : CovL l m) (h' : CovL m k) : CovL l k := fun x p hx => let ⟨q, h1, h2⟩ := h x p hx; let ⟨r, h3, h4⟩ := h' x q h1; ⟨r, h3, h2.trans h4⟩
theorem partner_ok {exact alt : Bool} {x : Exit} {p : Fr × St} : ∀ {l : Ways} {r : Fr × St} {m : Ways}, partner exact alt x p l = some (r, m) → Cov p r ∧ CovL l ((x, r) :: m)
  | [], r, m, h => by cases h
  | (y, q) :: l, r, m, h => by
    simp only [partner] at h
    split at h
    · rename_i r' hr
      cases h
      split at hr
      · rename_i hs
        have hs := exitSame_eq hs
        subst hs
        have := merge2_ok hr
        refine ⟨this.2, fun z u hu => ?_⟩
        rcases List.mem_cons.1 hu with heq | hu
        · cases heq; exact ⟨r, by simp, this.1⟩
        · exact ⟨u, List.mem_cons_of_mem _ hu, .refl u⟩
      · cases hr
    · split at h
      · rename_i r' m' hr
        cases h
        obtain ⟨h1, h2⟩ := partner_ok hr
        refine ⟨h1, fun z u hu => ?_⟩
        rcases List.mem_cons.1 hu with heq | hu
        · cases heq; exact ⟨q, by simp, .refl q⟩
        · obtain ⟨v, hv, hc⟩ := h2 z u hu
          refine ⟨v, ?_, hc⟩
          rcases List.mem_cons.1 hv with heq | hv
          · rw [heq]; simp
          · exact List.mem_cons_of_mem _ (List.mem_cons_of_mem _ hv)
      · cases h
theorem addW_ok {exact alt : Bool} {x : Exit} : ∀ (n : Nat) (p : Fr × St) (l : Ways), CovL ((x, p) :: l) (addW exact alt x n p l)
  | 0, p, l => .refl _
  | n + 1, p, l => by
    simp only [addW]
    split
    · rename_i r m h
      obtain ⟨h1, h2⟩ := partner_ok h
      refine CovL.trans (m := (x, r) :: m) (fun z u hu => ?_) (addW_ok n r m)
      rcases List.mem_cons.1 hu with heq | hu
      · cases heq; exact ⟨r, by simp, h1⟩
      · exact h2 z u hu
    · exact .refl _
theorem mergeAll_ok {exact alt : Bool} : ∀ (l acc : Ways), CovL (acc ++ l) (mergeAll exact alt acc l)
  | [], acc => by simp only [mergeAll, List.append_nil]; exact .refl _
  | (x, p) :: l, acc => by
    simp only [mergeAll]
    refine CovL.trans (fun z u hu => ?_) (mergeAll_ok l _)
    have ha := addW_ok (exact := exact) (alt := alt) (x := x) 100 p acc
    rcases List.mem_append.1 hu with hu | hu
    · obtain ⟨q, h1, h2⟩ := ha z u (List.mem_cons_of_mem _ hu)
      exact ⟨q, List.mem_append_left _ h1, h2⟩
    · rcases List.mem_cons.1 hu with heq | hu
      · cases heq
        obtain ⟨q, h1, h2⟩ := ha x p (by simp)
        exact ⟨q, List.mem_append_left _ h1, h2⟩
      · exact ⟨u, List.mem_append_right _ hu, .refl u⟩
theorem dropP_mem : ∀ {n : Nat} {l : Pc} {x : N × Bool}, x ∈ dropP n l → x ∈ l
  | 0, l, x, h => h
  | n + 1, [], x, h => h
  | n + 1, y :: l, x, h => List.mem_cons_of_mem _ (dropP_mem (n := n) h)
theorem oneW_ok (pc : Pc) (l : Ways) : CovL l (oneW pc l) := by
  unfold oneW
  split
  · rename_i x fr st
    intro z u hu
    simp only [List.mem_singleton] at hu
    cases hu
    exact ⟨(fr, { st with pc := dropP (lenP st.pc - lenP pc) st.pc }), by simp, fun e0 e S w0 w st0 act hx f => ⟨⟨hx.later, hx.rep, hx.holds.sub fun x hx => dropP_mem hx⟩, f⟩⟩
  · exact .refl _
theorem joinW_ok (lf : Nat) (pc : Pc) (l : Ways) : CovL l (joinW lf pc l) := by
  unfold joinW
  split
  · split
    · exact .refl _
    · exact .refl _
    · have h1 := mergeAll_ok (exact := true) (alt := true) l []
      simp only [List.nil_append] at h1
      split
      · rename_i hq; rw [hq] at h1; exact h1
      · rename_i x hq; rw [hq] at h1; exact h1.trans (oneW_ok pc _)
      · have h2 := mergeAll_ok (exact := false) (alt := true) (mergeAll true true [] l) []
        simp only [List.nil_append] at h2
        exact h1.trans (h2.trans (oneW_ok pc _))
  · exact .refl _
theorem join_hK {lf : Nat} {pc : Pc} {l : Ways} {e : Env} {S : Nat → Prop} {w0 : World} {st : St} {Q : Exit → Act → World → Prop}
    (hK : ∀ x fr' st', (x, fr', st') ∈ joinW lf pc l → ∀ e' w' a', After e S w0 st e' st' w' → Fm e' st'.hp fr' a' → Q x a' w') :
    ∀ x fr' st', (x, fr', st') ∈ l → ∀ e' w' a', After e S w0 st e' st' w' → Fm e' st'.hp fr' a' → Q x a' w' := by
  intro x fr st' hm e' w' a' haf hf
  obtain ⟨q, hq, hc⟩ := joinW_ok lf pc l x (fr, st') hm
  obtain ⟨h1, h2⟩ := hc _ _ _ _ _ _ _ haf hf
  exact hK x q.1 q.2 hq e' w' a' h1 h2
theorem asWays_mem : ∀ {l : List (V × St)} {v : V} {st : St}, (v, st) ∈ l → (Exit.normal, (([v], []), st)) ∈ asWays l
  | (u, s) :: l, v, st, h => by
    simp only [asWays]
    rcases List.mem_cons.1 h with heq | h
    · cases heq; simp
    · exact List.mem_cons_of_mem _ (asWays_mem h)
theorem joinR_ok {lf f : Nat} {pc : Pc} {l : List (V × St)} {e0 : Env} {S : Nat → Prop} {w0 : World} {st0 : St} {R : Value → World → Prop}
    (hR : ∀ v st', (v, st') ∈ joinR lf f pc l → ∀ e' w', After e0 S w0 st0 e' st' w' → V.ok st'.hp v → R (v.den e') w') :
    ∀ v st', (v, st') ∈ l → ∀ e' w', After e0 S w0 st0 e' st' w' → V.ok st'.hp v → R (v.den e') w' := by
  unfold joinR at hR
  split at hR
  · split at hR
    · exact hR
    · exact hR
    · split at hR
      · rename_i x u ds st hq
        intro v st' hm e' w' haf hok
        have h1 := mergeAll_ok (exact := true) (alt := false) (asWays l) []
        have h2 := mergeAll_ok (exact := false) (alt := false) (mergeAll true false [] (asWays l)) []
        simp only [List.nil_append] at h1 h2
        obtain ⟨q, hq1, hcov⟩ := (h1.trans (h2.trans (oneW_ok pc _))) _ _ (asWays_mem hm)
        rw [hq] at hq1
        simp only [List.mem_singleton, Prod.mk.injEq] at hq1
        obtain ⟨_, rfl⟩ := hq1
        have := hcov e0 e' S w0 w' st0 ⟨(V.denL e' [v]).toArray, []⟩ haf ⟨⟨rfl, ⟨hok, trivial⟩⟩, rfl, fun d hd => by cases hd⟩
        have h3 := hR u st (by simp) e' w' this.1 this.2.tm.ok.1
        have h4 : v.den e' = u.den e' := by
          have := this.2.tm.tmps
          simpa [V.denL] using this
        rw [h4]; exact h3
      · exact hR
  · exact hR
end Go.Proofs.Ytnfnhhphoiebbaa.Sx
